/-
  Packed: FdbCmp FdbPutM.
-/
import Derived.Test.YtddalpglihhipaaGreatPXKW
import Derived.Test.YtddalpglihhipaaGreatPXK01
import Derived.Test.YtddalpglihhipaaGreatPXK21
namespace Go.Proofs.YtddalpglihhipaaGreat
open Go.RowKit

abbrev q226 : Oper := ⟨some 24, .move (.tmp 2), 186, "sort.go:160", #[], none⟩
abbrev q227 : Oper := ⟨some 25, .move (.tmp 0), 144, "sort.go:160", #[], none⟩
abbrev q228 : Oper := ⟨some 26, .move (.tmp 11), 3, "sort.go:160", #[], none⟩
abbrev q229 : Oper := ⟨some 27, .indexAddr 144 (.tmp 25) (.tmp 26), 0, "sort.go:160", #[⟨1, .data⟩, ⟨2, .data⟩], none⟩
abbrev q230 : Oper := ⟨some 28, .load 149 (.tmp 27), 149, "sort.go:160", #[⟨3, .data⟩], none⟩
abbrev q231 : Oper := ⟨some 29, .load 149 (.tmp 4), 149, "sort.go:160", #[], none⟩
abbrev q232 : Oper := ⟨some 30, .call ⟨.value (.tmp 24), #[.tmp 28, .tmp 29], #[149, 149]⟩, 3, "sort.go:160", #[⟨0, .data⟩, ⟨4, .data⟩, ⟨5, .data⟩], none⟩
abbrev q233 : Oper := ⟨some 31, .binOp .lss 3 (.tmp 30) (.const (.int .i64 0)) 3, 4, "sort.go:160", #[⟨6, .data⟩], none⟩
abbrev q234 : Oper := ⟨some 35, .move (.tmp 9), 3, "sort.go:167", #[], none⟩
abbrev q235 : Oper := ⟨some 36, .move (.tmp 9), 3, "sort.go:167", #[], none⟩
abbrev q236 : Oper := ⟨some 37, .move (.tmp 8), 3, "sort.go:167", #[], none⟩
abbrev q237 : Oper := ⟨some 38, .binOp .lss 3 (.tmp 36) (.tmp 37) 3, 4, "sort.go:167", #[⟨1, .data⟩, ⟨2, .data⟩], none⟩
abbrev q238 : Oper := ⟨some 39, .move (.tmp 38), 4, "sort.go:167", #[⟨3, .data⟩], none⟩
abbrev q239 : Oper := ⟨some 40, .move (.tmp 2), 186, "sort.go:167", #[⟨4, .guard⟩], some (4, true)⟩
abbrev q240 : Oper := ⟨some 41, .move (.tmp 0), 144, "sort.go:167", #[⟨4, .guard⟩], some (4, true)⟩
abbrev q241 : Oper := ⟨some 42, .move (.tmp 9), 3, "sort.go:167", #[⟨4, .guard⟩], some (4, true)⟩
abbrev q242 : Oper := ⟨some 43, .indexAddr 144 (.tmp 41) (.tmp 42), 0, "sort.go:167", #[⟨6, .data⟩, ⟨7, .data⟩, ⟨4, .guard⟩], some (4, true)⟩
abbrev q243 : Oper := ⟨some 44, .load 149 (.tmp 43), 149, "sort.go:167", #[⟨8, .data⟩, ⟨4, .guard⟩], some (4, true)⟩
abbrev q244 : Oper := ⟨some 45, .load 149 (.tmp 4), 149, "sort.go:167", #[⟨4, .guard⟩], some (4, true)⟩
abbrev q245 : Oper := ⟨some 46, .call ⟨.value (.tmp 40), #[.tmp 44, .tmp 45], #[149, 149]⟩, 3, "sort.go:167", #[⟨5, .data⟩, ⟨9, .data⟩, ⟨10, .data⟩, ⟨4, .chain⟩, ⟨4, .guard⟩], some (4, true)⟩
abbrev q246 : Oper := ⟨some 47, .binOp .eql 3 (.tmp 46) (.const (.int .i64 0)) 3, 4, "sort.go:167", #[⟨11, .data⟩, ⟨4, .guard⟩, { on := 14, ground := Ground.gcOnly Departure.lateStores }], some (4, true)⟩
abbrev q247 : Oper := ⟨some 48, .pick (.tmp 39) (.tmp 47) (.const (.bool false)), 4, "sort.go:167", #[⟨4, .data⟩, ⟨12, .data⟩, { on := 14, ground := Ground.gcOnly Departure.lateStores }], none⟩
abbrev q248 : Oper := ⟨some 6, .assign (.tmp 35), 3, "sort.go:167", #[⟨0, .data⟩, ⟨11, .chain⟩, ⟨0, .phase⟩, { on := 1, ground := Ground.textOnly Departure.lateStores }, { on := 2, ground := Ground.textOnly Departure.lateStores }, { on := 3, ground := Ground.textOnly Departure.lateStores }, { on := 4, ground := Ground.textOnly Departure.lateStores }, { on := 5, ground := Ground.textOnly Departure.lateStores }, { on := 6, ground := Ground.textOnly Departure.lateStores }, { on := 7, ground := Ground.textOnly Departure.lateStores }, { on := 8, ground := Ground.textOnly Departure.lateStores }, { on := 9, ground := Ground.textOnly Departure.lateStores }, { on := 10, ground := Ground.textOnly Departure.lateStores }, { on := 11, ground := Ground.textOnly Departure.lateStoresUnsure }, { on := 12, ground := Ground.textOnly Departure.lateStores }, { on := 13, ground := Ground.textOnly Departure.lateStores }], none⟩
abbrev q249 : Oper := ⟨some 7, .assign (.tmp 48), 4, "sort.go:167", #[⟨13, .data⟩, ⟨14, .chain⟩, ⟨0, .phase⟩, ⟨1, .phase⟩, ⟨2, .phase⟩, ⟨3, .phase⟩, ⟨4, .phase⟩, ⟨5, .phase⟩, ⟨6, .phase⟩, ⟨7, .phase⟩, ⟨8, .phase⟩, ⟨9, .phase⟩, ⟨10, .phase⟩, ⟨11, .phase⟩, ⟨12, .phase⟩, ⟨13, .phase⟩, ⟨14, .phase⟩], none⟩

def cmpI8 (a b : Int) : Int := if a < b then -1 else if b < a then 1 else 0

set_option maxRecDepth 100000 in
set_option maxHeartbeats 400000 in
theorem isNaN8_any (a : Int) (w : World) : Calls Tryz.prog 192 #[.int .i64 a] w fun e w' => e = .returned (.bool false) ∧ w' = w := by
 go_enter Tryz.func192, Tryz.ntmps192
 go_wp2
 go_ret
 exact ⟨ret_bool (by simp), rfl⟩

set_option maxRecDepth 100000 in
set_option maxHeartbeats 1000000 in
theorem compareI8_any (a b : Int) (w : World) : Calls Tryz.prog 177 #[.int .i64 a, .int .i64 b] w fun e w' => e = .returned (.int .i64 (cmpI8 a b)) ∧ w' = w := by
 by_cases h1 : a < b
 ·rw [show cmpI8 a b = -1 from if_pos h1]
  go_enter Tryz.func177, Tryz.ntmps177
  go_wp2_with fail
  refine (isNaN8_any a _).mono ?_
  rintro e w1 ⟨rfl, rfl⟩
  go_wp2_with fail
  refine (isNaN8_any b _).mono ?_
  rintro e w2 ⟨rfl, rfl⟩
  go_wp2
  go_ret
  exact ⟨rfl, rfl⟩
 by_cases h2 : b < a
 ·rw [show cmpI8 a b = 1 by unfold cmpI8; rw [if_neg h1, if_pos h2]]
  go_enter Tryz.func177, Tryz.ntmps177
  go_wp2_with fail
  refine (isNaN8_any a _).mono ?_
  rintro e w1 ⟨rfl, rfl⟩
  go_wp2_with fail
  refine (isNaN8_any b _).mono ?_
  rintro e w2 ⟨rfl, rfl⟩
  go_wp2
  go_ret
  exact ⟨rfl, rfl⟩
 ·rw [show cmpI8 a b = 0 by unfold cmpI8; rw [if_neg h1, if_neg h2]]
  go_enter Tryz.func177, Tryz.ntmps177
  go_wp2_with fail
  refine (isNaN8_any a _).mono ?_
  rintro e w1 ⟨rfl, rfl⟩
  go_wp2_with fail
  refine (isNaN8_any b _).mono ?_
  rintro e w2 ⟨rfl, rfl⟩
  go_wp2
  go_ret
  exact ⟨rfl, rfl⟩

def or2 (a b : Int) : Int := if ¬ a = 0 then a else b

set_option maxRecDepth 100000 in
set_option maxHeartbeats 2000000 in
theorem or2_any (a b : Int) (g : Nat) (w : World) (hb : w.heap[g]? = some (.cells #[.int .i64 a, .int .i64 b] 3)) :
  Calls Tryz.prog 176 #[.slice (some ⟨g, 0, none⟩) 2 2] w fun e w' => e = .returned (.int .i64 (or2 a b)) ∧ w' = w := by
 obtain ⟨⟨x0, x1⟩, -⟩ := cells2 hb
 generalize ho : or2 a b = o
 have HO := hide ho
 clear ho hb
 go_enter Tryz.func176, Tryz.ntmps176
 go_wp2
 go_loop [8] (fun i => ∃ k : Nat, k ≤ 2 ∧ i = .int .i64 k ∧ (1 ≤ k → a = 0) ∧ (2 ≤ k → b = 0)) (fun i => 2 - (intOf i).toNat)
 case atStart => exact ⟨0, Nat.zero_le _, rfl, by omega, by omega⟩
 case round =>
  obtain ⟨k, hk, hi, e1, e2⟩ := hrel
  rcases (show k = 0 ∨ k = 1 ∨ k = 2 by omega) with rfl | rfl | rfl
  ·have hi : _ = Value.int .i64 0 := hi
   subst hi
   clear e1 e2
   by_cases h0 : a = 0
   ·have t0 : (a != 0) = false := by simp [h0]
    have H0 := hide h0
    clear h0
    go_wp2
    go_round
    case rel => exact ⟨1, by omega, by go_num, fun _ => H0.out, by omega⟩
    case measure => simp [intOf]
   ·have t0 : (a != 0) = true := by simp [h0]
    have H0 := hide h0
    clear h0
    go_wp2
    go_ret
    have := HO.out
    unfold or2 at this
    rw [if_pos H0.out] at this
    exact ⟨(by rw [← this]; rfl), rfl⟩
  ·have hi : _ = Value.int .i64 1 := hi
   subst hi
   have h1 := hide (e1 (by omega))
   clear e1 e2
   by_cases h0 : b = 0
   ·have t0 : (b != 0) = false := by simp [h0]
    have H0 := hide h0
    clear h0
    go_wp2
    go_round
    case rel => exact ⟨2, by omega, by go_num, fun _ => h1.out, fun _ => H0.out⟩
    case measure => simp [intOf]
   ·have t0 : (b != 0) = true := by simp [h0]
    have H0 := hide h0
    clear h0
    go_wp2
    go_ret
    have := HO.out
    unfold or2 at this
    rw [if_neg (by rw [h1.out]; exact fun h => h rfl)] at this
    exact ⟨(by rw [← this]; rfl), rfl⟩
  ·have hi : _ = Value.int .i64 2 := hi
   subst hi
   have h1 := hide (e1 (by omega))
   have h2 := hide (e2 (by omega))
   clear e1 e2
   go_wp2
   go_ret
   have := HO.out
   unfold or2 at this
   rw [if_neg (by rw [h1.out]; exact fun h => h rfl), h2.out] at this
   exact ⟨(by rw [← this]; rfl), rfl⟩

def cmpK (a b : FK) : Int := or2 (cmpI8 a.1 b.1) (cmpI8 a.2.1 b.2.1)

theorem cmpK_less (a b : FK) : cmpK a b < 0 ↔ a.1 < b.1 ∨ (a.1 = b.1 ∧ a.2.1 < b.2.1) := by
 unfold cmpK or2 cmpI8
 split <;> split <;> (try split) <;> (try split) <;> omega
theorem cmpK_same (a b : FK) : cmpK a b = 0 ↔ a.1 = b.1 ∧ a.2.1 = b.2.1 := by
 unfold cmpK or2 cmpI8
 split <;> split <;> (try split) <;> (try split) <;> omega

set_option maxRecDepth 100000 in
set_option maxHeartbeats 4000000 in
theorem compareKeys_any (x y : FK) (w : World) : Calls Tryz.prog 161 #[.agg #[.int .i64 x.1, .int .i64 x.2.1, .int .i64 x.2.2], .agg #[.int .i64 y.1, .int .i64 y.2.1, .int .i64 y.2.2]] w fun r w' => r = .returned (.int .i64 (cmpK x y)) ∧ Below w.heap.size w w' := by
 have q := below_two w (.cells #[.int .i64 x.1, .int .i64 x.2.1, .int .i64 x.2.2] 149) (.cells #[.int .i64 y.1, .int .i64 y.2.1, .int .i64 y.2.2] 149)
 have kx := kept_block (block_last w (.cells #[.int .i64 x.1, .int .i64 x.2.1, .int .i64 x.2.2] 149)) (below_one _ (.cells #[.int .i64 y.1, .int .i64 y.2.1, .int .i64 y.2.2] 149))
 have ky := block_last (w.alloc (.cells #[.int .i64 x.1, .int .i64 x.2.1, .int .i64 x.2.2] 149)) (.cells #[.int .i64 y.1, .int .i64 y.2.1, .int .i64 y.2.2] 149)
 rw [show (w.alloc (.cells #[.int .i64 x.1, .int .i64 x.2.1, .int .i64 x.2.2] 149)).heap.size = w.heap.size + 1 by simp] at ky
 generalize hK : cmpK x y = K
 unfold cmpK at hK
 have HK := hide hK
 clear hK
 have hS : ∀ W, Below ((w.alloc (.cells #[.int .i64 x.1, .int .i64 x.2.1, .int .i64 x.2.2] 149)).alloc (.cells #[.int .i64 y.1, .int .i64 y.2.1, .int .i64 y.2.2] 149)).heap.size ((w.alloc (.cells #[.int .i64 x.1, .int .i64 x.2.1, .int .i64 x.2.2] 149)).alloc (.cells #[.int .i64 y.1, .int .i64 y.2.1, .int .i64 y.2.2] 149)) W → ((W.cell? ⟨w.heap.size, 0, none⟩ = some (.int .i64 x.1) ∧ W.cell? ⟨w.heap.size, 1, none⟩ = some (.int .i64 x.2.1) ∧ W.cell? ⟨w.heap.size, 2, none⟩ = some (.int .i64 x.2.2)) ∧ (W.cell? ⟨(w.heap.size + 1), 0, none⟩ = some (.int .i64 y.1) ∧ W.cell? ⟨(w.heap.size + 1), 1, none⟩ = some (.int .i64 y.2.1) ∧ W.cell? ⟨(w.heap.size + 1), 2, none⟩ = some (.int .i64 y.2.2))) := fun W hW => ⟨(cells3 (kept_block kx hW)).1, (cells3 (kept_block ky hW)).1⟩
 have HS := hide hS
 clear hS kx ky
 go_enter Tryz.func161, Tryz.ntmps161
 go_wp2_with fail
 generalize hw2 : (w.alloc (.cells #[.int .i64 x.1, .int .i64 x.2.1, .int .i64 x.2.2] 149)).alloc (.cells #[.int .i64 y.1, .int .i64 y.2.1, .int .i64 y.2.2] 149) = w2 at *
 clear hw2
 refine wp_region_held_drew (S := (fun W => (W.cell? ⟨w.heap.size, 0, none⟩ = some (.int .i64 x.1) ∧ W.cell? ⟨w.heap.size, 1, none⟩ = some (.int .i64 x.2.1) ∧ W.cell? ⟨w.heap.size, 2, none⟩ = some (.int .i64 x.2.2)) ∧ (W.cell? ⟨(w.heap.size + 1), 0, none⟩ = some (.int .i64 y.1) ∧ W.cell? ⟨(w.heap.size + 1), 1, none⟩ = some (.int .i64 y.2.1) ∧ W.cell? ⟨(w.heap.size + 1), 2, none⟩ = some (.int .i64 y.2.2)))) (by kernel_rfl) (by first | exact HS.out _ (gr_drew (Below.refl _ _)) | exact HS.out _ (gr_drew (below_one _ _))) (fun hHeld => ?_)
 refine tK (v := ?_) 0 ⟨some 5, .fieldAddr 149 (.tmp 2) 0, 0, "l08_fdb.go:131", #[], none⟩ ?_ ?_
 rotate_left
 ·(intro _ h; (try dsimp only at h); go_simp; try with_reducible rfl)
 simp only [Act.put, lA, lB, lC]
 refine tK (v := ?_) 1 ⟨some 6, .load 3 (.tmp 5), 3, "l08_fdb.go:131", #[⟨0, .data⟩], none⟩ ?_ ?_
 rotate_left
 ·(intro _ h; (try dsimp only at h); go_simp; try with_reducible rfl)
 simp only [Act.put, lA, lB, lC]
 refine tK (v := ?_) 2 ⟨some 7, .fieldAddr 149 (.tmp 3) 0, 0, "l08_fdb.go:131", #[], none⟩ ?_ ?_
 rotate_left
 ·(intro _ h; (try dsimp only at h); go_simp; try with_reducible rfl)
 simp only [Act.put, lA, lB, lC]
 refine tK (v := ?_) 3 ⟨some 8, .load 3 (.tmp 7), 3, "l08_fdb.go:131", #[⟨2, .data⟩], none⟩ ?_ ?_
 rotate_left
 ·(intro _ h; (try dsimp only at h); go_simp; try with_reducible rfl)
 simp only [Act.put, lA, lB, lC]
 refine tK (v := ?_) 5 ⟨some 10, .fieldAddr 149 (.tmp 2) 1, 0, "l08_fdb.go:131", #[], none⟩ ?_ ?_
 rotate_left
 ·(intro _ h; (try dsimp only at h); go_simp; try with_reducible rfl)
 simp only [Act.put, lA, lB, lC]
 refine tK (v := ?_) 6 ⟨some 11, .load 3 (.tmp 10), 3, "l08_fdb.go:131", #[⟨5, .data⟩], none⟩ ?_ ?_
 rotate_left
 ·(intro _ h; (try dsimp only at h); go_simp; try with_reducible rfl)
 simp only [Act.put, lA, lB, lC]
 refine tK (v := ?_) 7 ⟨some 12, .fieldAddr 149 (.tmp 3) 1, 0, "l08_fdb.go:131", #[], none⟩ ?_ ?_
 rotate_left
 ·(intro _ h; (try dsimp only at h); go_simp; try with_reducible rfl)
 simp only [Act.put, lA, lB, lC]
 refine tK (v := ?_) 8 ⟨some 13, .load 3 (.tmp 12), 3, "l08_fdb.go:131", #[⟨7, .data⟩], none⟩ ?_ ?_
 rotate_left
 ·(intro _ h; (try dsimp only at h); go_simp; try with_reducible rfl)
 simp only [Act.put, lA, lB, lC]
 refine tR [4] ?_
 refine AllReadyH.cons (o := ⟨some 9, .call ⟨.value (.func 177), #[.tmp 6, .tmp 8], #[3, 3]⟩, 3, "l08_fdb.go:131", #[⟨1, .data⟩, ⟨3, .data⟩], none⟩) rfl (fun K hK => ?_) ?_
 ·go_simp
  refine (compareI8_any x.1 y.1 _).mono ?_
  rintro r wx ⟨rfl, rfl⟩
  go_wp2_with fail
  refine hK.out _ _ (by first | exact HS.out _ (gr_drew (Below.refl _ _)) | exact HS.out _ (gr_drew (below_one _ _))) (fun hHeld => ?_)
  clear hK K
  try simp only [Act.put, lA, lB, lC]
  refine tR [9] ?_
  refine AllReadyH.cons (o := ⟨some 14, .call ⟨.value (.func 177), #[.tmp 11, .tmp 13], #[3, 3]⟩, 3, "l08_fdb.go:131", #[⟨6, .data⟩, ⟨8, .data⟩, ⟨4, .chain⟩], none⟩) rfl (fun K hK => ?_) ?_
  ·go_simp
   refine (compareI8_any x.2.1 y.2.1 _).mono ?_
   rintro r wx ⟨rfl, rfl⟩
   go_wp2_with fail
   refine hK.out _ _ (by first | exact HS.out _ (gr_drew (Below.refl _ _)) | exact HS.out _ (gr_drew (below_one _ _))) (fun hHeld => ?_)
   clear hK K
   try simp only [Act.put, lA, lB, lC]
   refine tR [10] ?_
   refine AllReadyH.cons (o := ⟨some 15, .buildSlice 27 2 #[(0, .tmp 9), (1, .tmp 14)], 27, "l08_fdb.go:131", #[⟨4, .data⟩, ⟨9, .data⟩], none⟩) rfl (fun K hK => ?_) ?_
   ·go_simp
    refine hK.out _ _ (by first | exact HS.out _ (gr_drew (Below.refl _ _)) | exact HS.out _ (gr_drew (below_one _ _))) (fun hHeld => ?_)
    clear hK K
    try simp only [Act.put, lA, lB, lC]
    refine tR [11] ?_
    refine AllReadyH.cons (o := ⟨some 16, .call ⟨.value (.func 176), #[.tmp 15], #[27]⟩, 3, "l08_fdb.go:131", #[⟨10, .data⟩, ⟨9, .chain⟩], none⟩) rfl (fun K hK => ?_) ?_
    ·go_simp
     refine (or2_any (cmpI8 x.1 y.1) (cmpI8 x.2.1 y.2.1) w2.heap.size _ (show (w2.alloc (.cells #[.int .i64 (cmpI8 x.1 y.1), .int .i64 (cmpI8 x.2.1 y.2.1)] 3)).drew.heap[w2.heap.size]? = _ from block_last w2 _)).mono ?_
     rintro r wx ⟨rfl, rfl⟩
     rw [HK.out]
     go_wp2_with fail
     refine hK.out _ _ (by first | exact HS.out _ (gr_drew (Below.refl _ _)) | exact HS.out _ (gr_drew (below_one _ _))) (fun hHeld => ?_)
     clear hK K
     try simp only [Act.put, lA, lB, lC]
     refine tK (v := ?_) 12 ⟨some 4, .assign (.tmp 16), 3, "l08_fdb.go:131", #[⟨11, .data⟩, ⟨11, .chain⟩, ⟨0, .phase⟩, ⟨1, .phase⟩, ⟨2, .phase⟩, ⟨3, .phase⟩, ⟨4, .phase⟩, ⟨5, .phase⟩, ⟨6, .phase⟩, ⟨7, .phase⟩, ⟨8, .phase⟩, ⟨9, .phase⟩, ⟨10, .phase⟩, ⟨11, .phase⟩], none⟩ ?_ ?_
     rotate_left
     ·(intro _ h; (try dsimp only at h); go_simp; try with_reducible rfl)
     simp only [Act.put, lA, lB, lC]
     refine wpAnyH_done (by kernel_rfl) ?_ _
     go_wp2
     go_ret
     exact ⟨rfl, gr_trans q (gr_drew (below_one _ _))⟩
    exact AllReadyH.nil
   exact AllReadyH.nil
  exact AllReadyH.nil
 exact AllReadyH.nil

theorem fk_cells {w : World} {b off n cap : Nat} {l : List FK} (h : GRow fkF w (some ⟨b, off, none⟩) n cap l) {i : Nat} {x : FK} (hx : l[i]? = some x) :
  w.cell? ⟨b, off + i * 3, none⟩ = some (.int .i64 x.1) ∧ w.cell? ⟨b, off + i * 3 + 1, none⟩ = some (.int .i64 x.2.1) ∧ w.cell? ⟨b, off + i * 3 + 2, none⟩ = some (.int .i64 x.2.2) := by
 have hi : i < n := by
  have := (List.getElem?_eq_some_iff.1 hx).1
  have := h.size
  omega
 obtain ⟨y, b', off', hy, e, c⟩ := fk_at h i hi
 cases e
 rw [hx] at hy
 cases hy
 exact c

structure Found (ks : List FK) (y : FK) (pos : Nat) (there : Bool) : Prop where
 le : pos ≤ ks.length
 low : ∀ j x, j < pos → ks[j]? = some x → cmpK x y < 0
 high : ∀ j x, pos ≤ j → ks[j]? = some x → 0 ≤ cmpK x y
 is : there = match ks[pos]? with | some x => decide (cmpK x y = 0) | none => false

set_option maxRecDepth 100000 in
set_option maxHeartbeats 8000000 in
theorem search_any (ao : Option Addr) (n cap : Nat) (ks : List FK) (y : FK) (w : World) (h : GRow fkF w ao n cap ks) (hn : n ≤ 16777216)
  (hmono : ∀ (a b : Nat) (x z : FK), a ≤ b → ks[a]? = some x → ks[b]? = some z → cmpK z y < 0 → cmpK x y < 0) :
  Calls Tryz.prog 160 #[.slice ao n cap, .agg #[.int .i64 y.1, .int .i64 y.2.1, .int .i64 y.2.2], .func (.func 161) #[] #[]] w fun r w' => ∃ pos there, r = .returned (.tuple #[.int .i64 (pos : Nat), .bool there]) ∧ Found ks y pos there ∧ Below w.heap.size w w' := by
 have hsz := h.size
 have hrow := h.below (below_one w (.cells #[.int .i64 y.1, .int .i64 y.2.1, .int .i64 y.2.2] 149))
 have ky := block_last w (.cells #[.int .i64 y.1, .int .i64 y.2.1, .int .i64 y.2.2] 149)
 have HM := hide hmono
 have q := below_one w (.cells #[.int .i64 y.1, .int .i64 y.2.1, .int .i64 y.2.2] 149)
 clear hmono
 go_enter Tryz.func160, Tryz.ntmps160
 go_wp2
 go_loopw [9, 10] (fun s9 s10 wr => ∃ lo hi : Nat, s9 = .int .i64 lo ∧ s10 = .int .i64 hi ∧ lo ≤ hi ∧ hi ≤ n ∧ (∀ j x, j < lo → ks[j]? = some x → cmpK x y < 0) ∧ (∀ j x, hi ≤ j → ks[j]? = some x → 0 ≤ cmpK x y) ∧ Below (w.alloc (.cells #[.int .i64 y.1, .int .i64 y.2.1, .int .i64 y.2.2] 149)).heap.size (w.alloc (.cells #[.int .i64 y.1, .int .i64 y.2.1, .int .i64 y.2.2] 149)) wr) (fun s9 s10 _ => (intOf s10).toNat - (intOf s9).toNat)
 case atStart => exact ⟨0, n, rfl, rfl, Nat.zero_le _, Nat.le_refl _, fun j x hj => by omega, fun j x hj hx => by have := (List.getElem?_eq_some_iff.1 hx).1; omega, Below.refl _ _⟩
 case round =>
  obtain ⟨lo, hi, rfl, rfl, hlh, hhn, hlow, hhigh, hb⟩ := hrel
  have HL := hide hlow
  have HH := hide hhigh
  clear hlow hhigh
  by_cases hlt : lo < hi
  ·obtain ⟨mid, hmid⟩ : ∃ mid : Nat, mid = (lo + hi) / 2 := ⟨_, rfl⟩
   have hmz : ((lo : Int) + (hi : Int)) / 2 = (mid : Int) := by omega
   have hm1 : lo ≤ mid := by omega
   have hm2 : mid < hi := by omega
   have i1 : (0 : Int) ≤ (mid : Int) := by omega
   have i2 : (mid : Int) < (n : Int) := by omega
   obtain ⟨x, b, off, hx, rfl, -⟩ := fk_at (hrow.below hb) mid (by omega)
   clear hmid
   have hS : ∀ W, Below wr.heap.size wr W → ((W.cell? ⟨b, off + mid * 3, none⟩ = some (.int .i64 x.1) ∧ W.cell? ⟨b, off + mid * 3 + 1, none⟩ = some (.int .i64 x.2.1) ∧ W.cell? ⟨b, off + mid * 3 + 2, none⟩ = some (.int .i64 x.2.2)) ∧ (W.cell? ⟨w.heap.size, 0, none⟩ = some (.int .i64 y.1) ∧ W.cell? ⟨w.heap.size, 1, none⟩ = some (.int .i64 y.2.1) ∧ W.cell? ⟨w.heap.size, 2, none⟩ = some (.int .i64 y.2.2))) := fun W hW => ⟨fk_cells ((hrow.below hb).below hW) hx, (cells3 (kept_block (kept_block ky hb) hW)).1⟩
   have HSS := hide hS
   have vv : Below wr.heap.size wr wr.drew := gr_drew (Below.refl _ _)
   have HB := hide hb
   clear hS hb
   by_cases hyx : cmpK x y < 0
   ·have HL2 := hide (show ∀ j z, j < mid + 1 → ks[j]? = some z → cmpK z y < 0 from fun j z hj hz => HM.out j mid z x (by omega) hz hx hyx)
    clear hx
    go_wp2_with fail
    refine wp_region_held_drew (S := (fun W => (W.cell? ⟨b, off + mid * 3, none⟩ = some (.int .i64 x.1) ∧ W.cell? ⟨b, off + mid * 3 + 1, none⟩ = some (.int .i64 x.2.1) ∧ W.cell? ⟨b, off + mid * 3 + 2, none⟩ = some (.int .i64 x.2.2)) ∧ (W.cell? ⟨w.heap.size, 0, none⟩ = some (.int .i64 y.1) ∧ W.cell? ⟨w.heap.size, 1, none⟩ = some (.int .i64 y.2.1) ∧ W.cell? ⟨w.heap.size, 2, none⟩ = some (.int .i64 y.2.2)))) (by kernel_rfl) (HSS.out _ vv) (fun hHeld => ?_)
    refine tK (v := ?_) 0 q226 ?_ ?_
    rotate_left
    ·(intro _ h; (try dsimp only at h); go_simp; try with_reducible rfl)
    simp only [Act.put, lA, lB, lC]
    refine tK (v := ?_) 1 q227 ?_ ?_
    rotate_left
    ·(intro _ h; (try dsimp only at h); go_simp; try with_reducible rfl)
    simp only [Act.put, lA, lB, lC]
    refine tK (v := ?_) 2 q228 ?_ ?_
    rotate_left
    ·(intro _ h; (try dsimp only at h); go_simp; try with_reducible rfl)
    simp only [Act.put, lA, lB, lC]
    refine tK (v := ?_) 3 q229 ?_ ?_
    rotate_left
    ·(intro _ h; (try dsimp only at h); go_simp; try with_reducible rfl)
    simp only [Act.put, lA, lB, lC]
    refine tK (v := ?_) 4 q230 ?_ ?_
    rotate_left
    ·(intro _ h; (try dsimp only at h); go_simp; try with_reducible rfl)
    simp only [Act.put, lA, lB, lC]
    refine tK (v := ?_) 5 q231 ?_ ?_
    rotate_left
    ·(intro _ h; (try dsimp only at h); go_simp; try with_reducible rfl)
    simp only [Act.put, lA, lB, lC]
    refine tR [6] ?_
    refine AllReadyH.cons (o := q232) rfl (fun K hK => ?_) ?_
    ·go_simp
     refine (compareKeys_any x y _).mono ?_
     rintro r wx ⟨rfl, hbx⟩
     have vv := gr_trans vv hbx
     go_wp2_with fail
     refine hK.out _ _ (HSS.out _ vv) (fun hHeld => ?_)
     clear hK K
     try simp only [Act.put, lA, lB, lC]
     refine tK (v := .bool true) 7 q233 ?_ ?_
     ·(intro wY hSw; (try dsimp only at hSw); go_simp; first | done | omega)
     simp only [Act.put, lA, lB, lC]
     refine wpAnyH_done (by kernel_rfl) ?_ _
     clear HSS hHeld
     go_wp2
     go_roundw
     case rel => exact ⟨mid + 1, hi, by go_num, rfl, by omega, hhn, HL2.out, HH.out, gr_trans HB.out vv⟩
     case measure => simp [intOf]; omega
    exact AllReadyH.nil
   ·have HH2 := hide (show ∀ j z, mid ≤ j → ks[j]? = some z → 0 ≤ cmpK z y from fun j z hj hz => Int.not_lt.1 (fun hc => hyx (HM.out mid j x z hj hx hz hc)))
    clear hx
    go_wp2_with fail
    refine wp_region_held_drew (S := (fun W => (W.cell? ⟨b, off + mid * 3, none⟩ = some (.int .i64 x.1) ∧ W.cell? ⟨b, off + mid * 3 + 1, none⟩ = some (.int .i64 x.2.1) ∧ W.cell? ⟨b, off + mid * 3 + 2, none⟩ = some (.int .i64 x.2.2)) ∧ (W.cell? ⟨w.heap.size, 0, none⟩ = some (.int .i64 y.1) ∧ W.cell? ⟨w.heap.size, 1, none⟩ = some (.int .i64 y.2.1) ∧ W.cell? ⟨w.heap.size, 2, none⟩ = some (.int .i64 y.2.2)))) (by kernel_rfl) (HSS.out _ vv) (fun hHeld => ?_)
    refine tK (v := ?_) 0 q226 ?_ ?_
    rotate_left
    ·(intro _ h; (try dsimp only at h); go_simp; try with_reducible rfl)
    simp only [Act.put, lA, lB, lC]
    refine tK (v := ?_) 1 q227 ?_ ?_
    rotate_left
    ·(intro _ h; (try dsimp only at h); go_simp; try with_reducible rfl)
    simp only [Act.put, lA, lB, lC]
    refine tK (v := ?_) 2 q228 ?_ ?_
    rotate_left
    ·(intro _ h; (try dsimp only at h); go_simp; try with_reducible rfl)
    simp only [Act.put, lA, lB, lC]
    refine tK (v := ?_) 3 q229 ?_ ?_
    rotate_left
    ·(intro _ h; (try dsimp only at h); go_simp; try with_reducible rfl)
    simp only [Act.put, lA, lB, lC]
    refine tK (v := ?_) 4 q230 ?_ ?_
    rotate_left
    ·(intro _ h; (try dsimp only at h); go_simp; try with_reducible rfl)
    simp only [Act.put, lA, lB, lC]
    refine tK (v := ?_) 5 q231 ?_ ?_
    rotate_left
    ·(intro _ h; (try dsimp only at h); go_simp; try with_reducible rfl)
    simp only [Act.put, lA, lB, lC]
    refine tR [6] ?_
    refine AllReadyH.cons (o := q232) rfl (fun K hK => ?_) ?_
    ·go_simp
     refine (compareKeys_any x y _).mono ?_
     rintro r wx ⟨rfl, hbx⟩
     have vv := gr_trans vv hbx
     go_wp2_with fail
     refine hK.out _ _ (HSS.out _ vv) (fun hHeld => ?_)
     clear hK K
     try simp only [Act.put, lA, lB, lC]
     refine tK (v := .bool false) 7 q233 ?_ ?_
     ·(intro wY hSw; (try dsimp only at hSw); go_simp; first | done | omega)
     simp only [Act.put, lA, lB, lC]
     refine wpAnyH_done (by kernel_rfl) ?_ _
     clear HSS hHeld
     go_wp2
     go_roundw
     case rel => exact ⟨lo, mid, rfl, by go_num, by omega, by omega, HL.out, HH2.out, gr_trans HB.out vv⟩
     case measure => simp [intOf]; omega
    exact AllReadyH.nil
  ·obtain rfl : hi = lo := by omega
   by_cases hin : hi < n
   ·obtain ⟨x, b, off, hx, rfl, -⟩ := fk_at (hrow.below hb) hi hin
    have i1 : (0 : Int) ≤ (hi : Int) := by omega
    have i2 : (hi : Int) < (n : Int) := by omega
    have hS : ∀ W, Below wr.heap.size wr W → ((W.cell? ⟨b, off + hi * 3, none⟩ = some (.int .i64 x.1) ∧ W.cell? ⟨b, off + hi * 3 + 1, none⟩ = some (.int .i64 x.2.1) ∧ W.cell? ⟨b, off + hi * 3 + 2, none⟩ = some (.int .i64 x.2.2)) ∧ (W.cell? ⟨w.heap.size, 0, none⟩ = some (.int .i64 y.1) ∧ W.cell? ⟨w.heap.size, 1, none⟩ = some (.int .i64 y.2.1) ∧ W.cell? ⟨w.heap.size, 2, none⟩ = some (.int .i64 y.2.2))) := fun W hW => ⟨fk_cells ((hrow.below hb).below hW) hx, (cells3 (kept_block (kept_block ky hb) hW)).1⟩
    have HSS := hide hS
    have vv : Below wr.heap.size wr wr.drew := gr_drew (Below.refl _ _)
    have HB := hide hb
    clear hS hb
    by_cases hyx : cmpK x y = 0
    ·have HF := hide (show Found ks y hi true from ⟨by omega, HL.out, HH.out, by rw [hx]; exact (decide_eq_true hyx).symm⟩)
     clear hx
     go_wp2_with fail
     refine wp_region_held_drew (S := (fun W => (W.cell? ⟨b, off + hi * 3, none⟩ = some (.int .i64 x.1) ∧ W.cell? ⟨b, off + hi * 3 + 1, none⟩ = some (.int .i64 x.2.1) ∧ W.cell? ⟨b, off + hi * 3 + 2, none⟩ = some (.int .i64 x.2.2)) ∧ (W.cell? ⟨w.heap.size, 0, none⟩ = some (.int .i64 y.1) ∧ W.cell? ⟨w.heap.size, 1, none⟩ = some (.int .i64 y.2.1) ∧ W.cell? ⟨w.heap.size, 2, none⟩ = some (.int .i64 y.2.2)))) (by kernel_rfl) (HSS.out _ vv) (fun hHeld => ?_)
     refine tK (v := ?_) 0 q234 ?_ ?_
     rotate_left
     ·(intro _ h; (try dsimp only at h); go_simp; try with_reducible rfl)
     simp only [Act.put, lA, lB, lC]
     refine tK (v := ?_) 1 q235 ?_ ?_
     rotate_left
     ·(intro _ h; (try dsimp only at h); go_simp; try with_reducible rfl)
     simp only [Act.put, lA, lB, lC]
     refine tK (v := ?_) 2 q236 ?_ ?_
     rotate_left
     ·(intro _ h; (try dsimp only at h); go_simp; try with_reducible rfl)
     simp only [Act.put, lA, lB, lC]
     refine tK (v := .bool true) 3 q237 ?_ ?_
     ·(intro wY hSw; (try dsimp only at hSw); go_simp; first | done | omega)
     simp only [Act.put, lA, lB, lC]
     refine tK (v := ?_) 4 q238 ?_ ?_
     rotate_left
     ·(intro _ h; (try dsimp only at h); go_simp; try with_reducible rfl)
     simp only [Act.put, lA, lB, lC]
     refine tK (v := ?_) 5 q239 ?_ ?_
     rotate_left
     ·(intro _ h; (try dsimp only at h); go_simp; try with_reducible rfl)
     simp only [Act.put, lA, lB, lC]
     refine tK (v := ?_) 6 q240 ?_ ?_
     rotate_left
     ·(intro _ h; (try dsimp only at h); go_simp; try with_reducible rfl)
     simp only [Act.put, lA, lB, lC]
     refine tK (v := ?_) 7 q241 ?_ ?_
     rotate_left
     ·(intro _ h; (try dsimp only at h); go_simp; try with_reducible rfl)
     simp only [Act.put, lA, lB, lC]
     refine tK (v := ?_) 8 q242 ?_ ?_
     rotate_left
     ·(intro _ h; (try dsimp only at h); go_simp; try with_reducible rfl)
     simp only [Act.put, lA, lB, lC]
     refine tK (v := ?_) 9 q243 ?_ ?_
     rotate_left
     ·(intro _ h; (try dsimp only at h); go_simp; try with_reducible rfl)
     simp only [Act.put, lA, lB, lC]
     refine tK (v := ?_) 10 q244 ?_ ?_
     rotate_left
     ·(intro _ h; (try dsimp only at h); go_simp; try with_reducible rfl)
     simp only [Act.put, lA, lB, lC]
     refine tR [11] ?_
     refine AllReadyH.cons (o := q245) rfl (fun K hK => ?_) ?_
     ·go_simp
      refine (compareKeys_any x y _).mono ?_
      rintro r wx ⟨rfl, hbx⟩
      have vv := gr_trans vv hbx
      go_wp2_with fail
      refine hK.out _ _ (HSS.out _ vv) (fun hHeld => ?_)
      clear hK K
      try simp only [Act.put, lA, lB, lC]
      refine tK (v := .bool true) 12 q246 ?_ ?_
      ·(intro wY hSw; (try dsimp only at hSw); go_simp; first | done | omega)
      simp only [Act.put, lA, lB, lC]
      refine tK (v := ?_) 13 q247 ?_ ?_
      rotate_left
      ·(intro _ h; (try dsimp only at h); go_simp; try with_reducible rfl)
      simp only [Act.put, lA, lB, lC]
      refine tK (v := ?_) 14 q248 ?_ ?_
      rotate_left
      ·(intro _ h; (try dsimp only at h); go_simp; try with_reducible rfl)
      simp only [Act.put, lA, lB, lC]
      refine tK (v := ?_) 15 q249 ?_ ?_
      rotate_left
      ·(intro _ h; (try dsimp only at h); go_simp; try with_reducible rfl)
      simp only [Act.put, lA, lB, lC]
      refine wpAnyH_done (by kernel_rfl) ?_ _
      clear HSS
      clear hHeld
      go_wp2
      exact bodyPost_ret (v := .tuple #[.int .i64 (hi : Nat), .bool true]) (by simp [results, Tryz.results160, go_sem, *]) rfl ⟨hi, true, rfl, HF.out, gr_trans q (gr_trans HB.out vv)⟩
     exact AllReadyH.nil
    ·have HF := hide (show Found ks y hi false from ⟨by omega, HL.out, HH.out, by rw [hx]; exact (decide_eq_false hyx).symm⟩)
     clear hx
     go_wp2_with fail
     refine wp_region_held_drew (S := (fun W => (W.cell? ⟨b, off + hi * 3, none⟩ = some (.int .i64 x.1) ∧ W.cell? ⟨b, off + hi * 3 + 1, none⟩ = some (.int .i64 x.2.1) ∧ W.cell? ⟨b, off + hi * 3 + 2, none⟩ = some (.int .i64 x.2.2)) ∧ (W.cell? ⟨w.heap.size, 0, none⟩ = some (.int .i64 y.1) ∧ W.cell? ⟨w.heap.size, 1, none⟩ = some (.int .i64 y.2.1) ∧ W.cell? ⟨w.heap.size, 2, none⟩ = some (.int .i64 y.2.2)))) (by kernel_rfl) (HSS.out _ vv) (fun hHeld => ?_)
     refine tK (v := ?_) 0 q234 ?_ ?_
     rotate_left
     ·(intro _ h; (try dsimp only at h); go_simp; try with_reducible rfl)
     simp only [Act.put, lA, lB, lC]
     refine tK (v := ?_) 1 q235 ?_ ?_
     rotate_left
     ·(intro _ h; (try dsimp only at h); go_simp; try with_reducible rfl)
     simp only [Act.put, lA, lB, lC]
     refine tK (v := ?_) 2 q236 ?_ ?_
     rotate_left
     ·(intro _ h; (try dsimp only at h); go_simp; try with_reducible rfl)
     simp only [Act.put, lA, lB, lC]
     refine tK (v := .bool true) 3 q237 ?_ ?_
     ·(intro wY hSw; (try dsimp only at hSw); go_simp; first | done | omega)
     simp only [Act.put, lA, lB, lC]
     refine tK (v := ?_) 4 q238 ?_ ?_
     rotate_left
     ·(intro _ h; (try dsimp only at h); go_simp; try with_reducible rfl)
     simp only [Act.put, lA, lB, lC]
     refine tK (v := ?_) 5 q239 ?_ ?_
     rotate_left
     ·(intro _ h; (try dsimp only at h); go_simp; try with_reducible rfl)
     simp only [Act.put, lA, lB, lC]
     refine tK (v := ?_) 6 q240 ?_ ?_
     rotate_left
     ·(intro _ h; (try dsimp only at h); go_simp; try with_reducible rfl)
     simp only [Act.put, lA, lB, lC]
     refine tK (v := ?_) 7 q241 ?_ ?_
     rotate_left
     ·(intro _ h; (try dsimp only at h); go_simp; try with_reducible rfl)
     simp only [Act.put, lA, lB, lC]
     refine tK (v := ?_) 8 q242 ?_ ?_
     rotate_left
     ·(intro _ h; (try dsimp only at h); go_simp; try with_reducible rfl)
     simp only [Act.put, lA, lB, lC]
     refine tK (v := ?_) 9 q243 ?_ ?_
     rotate_left
     ·(intro _ h; (try dsimp only at h); go_simp; try with_reducible rfl)
     simp only [Act.put, lA, lB, lC]
     refine tK (v := ?_) 10 q244 ?_ ?_
     rotate_left
     ·(intro _ h; (try dsimp only at h); go_simp; try with_reducible rfl)
     simp only [Act.put, lA, lB, lC]
     refine tR [11] ?_
     refine AllReadyH.cons (o := q245) rfl (fun K hK => ?_) ?_
     ·go_simp
      refine (compareKeys_any x y _).mono ?_
      rintro r wx ⟨rfl, hbx⟩
      have vv := gr_trans vv hbx
      go_wp2_with fail
      refine hK.out _ _ (HSS.out _ vv) (fun hHeld => ?_)
      clear hK K
      try simp only [Act.put, lA, lB, lC]
      refine tK (v := .bool false) 12 q246 ?_ ?_
      ·(intro wY hSw; (try dsimp only at hSw); go_simp; first | done | omega)
      simp only [Act.put, lA, lB, lC]
      refine tK (v := ?_) 13 q247 ?_ ?_
      rotate_left
      ·(intro _ h; (try dsimp only at h); go_simp; try with_reducible rfl)
      simp only [Act.put, lA, lB, lC]
      refine tK (v := ?_) 14 q248 ?_ ?_
      rotate_left
      ·(intro _ h; (try dsimp only at h); go_simp; try with_reducible rfl)
      simp only [Act.put, lA, lB, lC]
      refine tK (v := ?_) 15 q249 ?_ ?_
      rotate_left
      ·(intro _ h; (try dsimp only at h); go_simp; try with_reducible rfl)
      simp only [Act.put, lA, lB, lC]
      refine wpAnyH_done (by kernel_rfl) ?_ _
      clear HSS
      clear hHeld
      go_wp2
      exact bodyPost_ret (v := .tuple #[.int .i64 (hi : Nat), .bool false]) (by simp [results, Tryz.results160, go_sem, *]) rfl ⟨hi, false, rfl, HF.out, gr_trans q (gr_trans HB.out vv)⟩
     exact AllReadyH.nil
   ·have hk : ks[hi]? = none := List.getElem?_eq_none (by omega)
    have HF := hide (show Found ks y hi false from ⟨by omega, HL.out, HH.out, by rw [hk]⟩)
    have HB := hide hb
    clear hk hb
    go_wp2_with fail
    refine wp_region_held_drew (S := (fun _ => True)) (by kernel_rfl) (trivial) (fun hHeld => ?_)
    refine tK (v := ?_) 0 q234 ?_ ?_
    rotate_left
    ·(intro _ h; (try dsimp only at h); go_simp; try with_reducible rfl)
    simp only [Act.put, lA, lB, lC]
    refine tK (v := ?_) 1 q235 ?_ ?_
    rotate_left
    ·(intro _ h; (try dsimp only at h); go_simp; try with_reducible rfl)
    simp only [Act.put, lA, lB, lC]
    refine tK (v := ?_) 2 q236 ?_ ?_
    rotate_left
    ·(intro _ h; (try dsimp only at h); go_simp; try with_reducible rfl)
    simp only [Act.put, lA, lB, lC]
    refine tK (v := .bool false) 3 q237 ?_ ?_
    ·(intro wY hSw; (try dsimp only at hSw); go_simp; first | done | omega)
    simp only [Act.put, lA, lB, lC]
    refine tK (v := ?_) 4 q238 ?_ ?_
    rotate_left
    ·(intro _ h; (try dsimp only at h); go_simp; try with_reducible rfl)
    simp only [Act.put, lA, lB, lC]
    refine tN 5 q239 ?_
    simp only [Act.put, lA, lB, lC]
    refine tN 6 q240 ?_
    simp only [Act.put, lA, lB, lC]
    refine tN 7 q241 ?_
    simp only [Act.put, lA, lB, lC]
    refine tN 8 q242 ?_
    simp only [Act.put, lA, lB, lC]
    refine tN 9 q243 ?_
    simp only [Act.put, lA, lB, lC]
    refine tN 10 q244 ?_
    simp only [Act.put, lA, lB, lC]
    refine tN 11 q245 ?_
    simp only [Act.put, lA, lB, lC]
    refine tN 12 q246 ?_
    simp only [Act.put, lA, lB, lC]
    refine tK (v := ?_) 13 q247 ?_ ?_
    rotate_left
    ·(intro _ h; (try dsimp only at h); go_simp; try with_reducible rfl)
    simp only [Act.put, lA, lB, lC]
    refine tK (v := ?_) 14 q248 ?_ ?_
    rotate_left
    ·(intro _ h; (try dsimp only at h); go_simp; try with_reducible rfl)
    simp only [Act.put, lA, lB, lC]
    refine tK (v := ?_) 15 q249 ?_ ?_
    rotate_left
    ·(intro _ h; (try dsimp only at h); go_simp; try with_reducible rfl)
    simp only [Act.put, lA, lB, lC]
    refine wpAnyH_done (by kernel_rfl) ?_ _
    clear hHeld
    go_wp2
    exact bodyPost_ret (v := .tuple #[.int .i64 (hi : Nat), .bool false]) (by simp [results, Tryz.results160, go_sem, *]) rfl ⟨hi, false, rfl, HF.out, gr_trans q (gr_trans HB.out (gr_drew (Below.refl _ _)))⟩

def key0 (e : FE) : FK := (e.t, e.m, 0)

theorem keysGo_rise : ∀ (l pre : List FE), (∀ x ∈ l, ∀ z ∈ pre, both z x.t x.m = false) → l.Pairwise (fun e f => ahead e f.t f.m = true) → keysGo pre l = l.map key0
 | [], _, _, _ => rfl
 | x :: r, pre, h1, h2 => by
  obtain ⟨h3, h4⟩ := List.pairwise_cons.1 h2
  rw [keysGo, List.map_cons, keysGo_rise r (pre ++ [x]) ?_ h4]
  ·have : cnt pre x.t x.m = 0 := by
    unfold cnt
    rw [List.filter_eq_nil_iff.2]
    ·rfl
    ·intro z hz hb
     rw [h1 x (by simp) z hz] at hb
     cases hb
   show keyIn pre x :: _ = _
   unfold keyIn key0
   rw [this]
  ·intro y hy z hz
   rcases List.mem_append.1 hz with hz | hz
   ·exact h1 y (List.mem_cons_of_mem _ hy) z hz
   ·simp at hz
    subst hz
    have := h3 y hy
    rw [ahead_iff] at this
    exact both_not.2 (by omega)

theorem keys_rise {l : List FE} (h : Sorted l) : keysOf l = l.map key0 := keysGo_rise l [] (by simp) h.2

theorem cmp_key (x e : FE) : cmpK (key0 x) (key0 e) < 0 ↔ ahead x e.t e.m = true := by
 rw [cmpK_less, ahead_iff]
 rfl
theorem cmp_key0 (x e : FE) : cmpK (key0 x) (key0 e) = 0 ↔ both x e.t e.m = true := by
 rw [cmpK_same, both_iff]
 rfl

theorem rise_mono {l : List FE} (h : Sorted l) (e : FE) : ∀ (a b : Nat) (x z : FK), a ≤ b → (keysOf l)[a]? = some x → (keysOf l)[b]? = some z → cmpK z (key0 e) < 0 → cmpK x (key0 e) < 0 := by
 intro a b x z hab hx hz hc
 rw [keys_rise h, List.getElem?_map] at hx hz
 obtain ⟨u, hu, rfl⟩ := Option.map_eq_some_iff.1 hx
 obtain ⟨v, hv, rfl⟩ := Option.map_eq_some_iff.1 hz
 rw [cmp_key] at *
 by_cases e1 : a = b
 ·subst e1
  rw [hu] at hv
  cases hv
  exact hc
 ·have ha := (List.getElem?_eq_some_iff.1 hu).1
  have hb := (List.getElem?_eq_some_iff.1 hv).1
  have := List.pairwise_iff_getElem.1 h.2 a b ha hb (by omega)
  rw [List.getElem?_eq_getElem ha] at hu
  rw [List.getElem?_eq_getElem hb] at hv
  cases hu
  cases hv
  exact ahead_trans this (by rw [ahead_iff] at *; exact hc)

theorem ins_at {e : FE} : ∀ {l : List FE} {pos : Nat}, pos ≤ l.length → (∀ j x, j < pos → l[j]? = some x → ahead x e.t e.m = true) → (∀ x, l[pos]? = some x → ahead x e.t e.m = false) →
  insF e l = l.take pos ++ e :: (match l[pos]? with | some x => if both x e.t e.m = true then l.drop (pos + 1) else l.drop pos | none => [])
 | [], pos, hp, _, _ => by
  have : pos = 0 := by simpa using hp
  subst this
  simp [insF]
 | x :: r, 0, _, _, h2 => by
  have ha := h2 x rfl
  unfold insF
  rw [ha]
  simp only [Bool.false_eq_true, if_false, List.take_zero, List.nil_append, List.getElem?_cons_zero]
  split <;> simp
 | x :: r, pos + 1, hp, h1, h2 => by
  have ha := h1 0 x (by omega) rfl
  have ih := ins_at (e := e) (l := r) (pos := pos) (by simpa using hp) (fun j z hj hz => h1 (j + 1) z (by omega) (by simpa using hz)) (fun z hz => h2 z (by simpa using hz))
  unfold insF
  rw [ha, if_pos rfl, ih]
  simp

theorem look_at {l : List FE} (h : Sorted l) {e : FE} {pos : Nat} (h1 : ∀ j x, j < pos → l[j]? = some x → ahead x e.t e.m = true) (h2 : ∀ j x, pos ≤ j → l[j]? = some x → ahead x e.t e.m = false) :
  (lookE l e.t e.m).isSome = (match l[pos]? with | some x => both x e.t e.m | none => false) := by
 cases hk : l[pos]? with
 | none =>
  have : lookE l e.t e.m = none := look_none.2 (by
   intro x hx hb
   obtain ⟨j, hj⟩ := List.getElem?_of_mem hx
   have hjl := (List.getElem?_eq_some_iff.1 hj).1
   have hpl := List.getElem?_eq_none_iff.1 hk
   have := h1 j x (by omega) hj
   rw [ahead_iff] at this
   omega)
  rw [this]
  rfl
 | some x =>
  cases hb : both x e.t e.m
  ·have : lookE l e.t e.m = none := look_none.2 (by
    intro z hz hbz
    obtain ⟨j, hj⟩ := List.getElem?_of_mem hz
    have hjl := (List.getElem?_eq_some_iff.1 hj).1
    have hpl := (List.getElem?_eq_some_iff.1 hk).1
    rcases Nat.lt_trichotomy j pos with hlt | heq | hgt
    ·have := h1 j z hlt hj
     rw [ahead_iff] at this
     omega
    ·subst heq
     rw [hk] at hj
     cases hj
     rw [both_not] at hb
     exact hb hbz
    ·have h3 := List.pairwise_iff_getElem.1 h.2 pos j hpl hjl hgt
     rw [List.getElem?_eq_getElem hpl] at hk
     rw [List.getElem?_eq_getElem hjl] at hj
     cases hk
     cases hj
     have h4 := h2 pos _ (Nat.le_refl _) (List.getElem?_eq_getElem hpl)
     rw [ahead_iff] at h3
     rw [ahead_not] at h4
     rw [both_not] at hb
     omega)
   rw [this]
   simp [hb]
  ·have hm := List.mem_of_getElem? hk
   have := look_mem h hm
   obtain ⟨e1, e2⟩ := both_iff.1 hb
   rw [e1, e2] at this
   rw [this]
   simp [hb]

theorem out_set {l : List FE} {i : Nat} {e' : FE} {k : FK} (hk : (keysOf l)[i]? = some k) : (keysOf l).filterMap (upd (entsOf l) k (some e')) = l.take i ++ e' :: l.drop (i + 1) := by
 have hik := (List.getElem?_eq_some_iff.1 hk).1
 have hkk : (keysOf l)[i] = k := by rw [List.getElem?_eq_getElem hik] at hk; exact Option.some.inj hk
 have hsp : keysOf l = (keysOf l).take i ++ k :: (keysOf l).drop (i + 1) := by
  rw [← hkk, ← List.drop_eq_getElem_cons hik, List.take_append_drop]
 have hnd := keys_nodup l
 rw [hsp] at hnd
 have hn1 : k ∉ (keysOf l).take i := by
  intro h
  exact (List.nodup_append.1 hnd).2.2 k h k (by simp) rfl
 have hn2 : k ∉ (keysOf l).drop (i + 1) := (List.nodup_cons.1 (List.nodup_append.1 hnd).2.1).1
 have hm := ents_map l
 have hm1 : ((keysOf l).take i).map (entsOf l) = (l.take i).map some := by rw [List.map_take, hm, List.map_take]
 have hm2 : ((keysOf l).drop (i + 1)).map (entsOf l) = (l.drop (i + 1)).map some := by rw [List.map_drop, hm, List.map_drop]
 rw [hsp, List.filterMap_append, List.filterMap_cons, upd_same]
 have e1 : ((keysOf l).take i).filterMap (upd (entsOf l) k (some e')) = l.take i := by
  rw [map_out (g := entsOf l) (fun x hx => upd_other (entsOf l) (a := k) (some e') (fun e => hn1 (by rw [← e]; exact hx)))]
  exact out_all hm1
 have e2 : ((keysOf l).drop (i + 1)).filterMap (upd (entsOf l) k (some e')) = l.drop (i + 1) := by
  rw [map_out (g := entsOf l) (fun x hx => upd_other (entsOf l) (a := k) (some e') (fun e => hn2 (by rw [← e]; exact hx)))]
  exact out_all hm2
 rw [e1]
 simp only
 rw [e2]

theorem out_new {l : List FE} {i : Nat} {e' : FE} {k : FK} (hk : k ∉ keysOf l) : ((keysOf l).take i ++ k :: (keysOf l).drop i).filterMap (upd (entsOf l) k (some e')) = l.take i ++ e' :: l.drop i := by
 have hm := ents_map l
 have hm1 : ((keysOf l).take i).map (entsOf l) = (l.take i).map some := by rw [List.map_take, hm, List.map_take]
 have hm2 : ((keysOf l).drop i).map (entsOf l) = (l.drop i).map some := by rw [List.map_drop, hm, List.map_drop]
 rw [List.filterMap_append, List.filterMap_cons, upd_same]
 have e1 : ((keysOf l).take i).filterMap (upd (entsOf l) k (some e')) = l.take i := by
  rw [map_out (g := entsOf l) (fun x hx => upd_other (entsOf l) (a := k) (some e') (fun e => hk (by rw [← e]; exact List.mem_of_mem_take hx)))]
  exact out_all hm1
 have e2 : ((keysOf l).drop i).filterMap (upd (entsOf l) k (some e')) = l.drop i := by
  rw [map_out (g := entsOf l) (fun x hx => upd_other (entsOf l) (a := k) (some e') (fun e => hk (by rw [← e]; exact List.mem_of_mem_drop hx)))]
  exact out_all hm2
 rw [e1]
 simp only
 rw [e2]

theorem found_says {l : List FE} (h : Sorted l) {e : FE} {pos : Nat} {there : Bool} (F : Found (keysOf l) (key0 e) pos there) :
  pos ≤ l.length ∧ (lookE l e.t e.m).isSome = there ∧
  (there = true → ∃ x, l[pos]? = some x ∧ (keysOf l)[pos]? = some (key0 e) ∧ insF e l = l.take pos ++ e :: l.drop (pos + 1)) ∧
  (there = false → key0 e ∉ keysOf l ∧ insF e l = l.take pos ++ e :: l.drop pos) := by
 have hlen := keys_length l
 have hkr := keys_rise h
 have h1 : ∀ j x, j < pos → l[j]? = some x → ahead x e.t e.m = true := fun j x hj hx => (cmp_key x e).1 (F.low j (key0 x) hj (by rw [hkr, List.getElem?_map, hx]; rfl))
 have h2 : ∀ j x, pos ≤ j → l[j]? = some x → ahead x e.t e.m = false := fun j x hj hx => by
  have := F.high j (key0 x) hj (by rw [hkr, List.getElem?_map, hx]; rfl)
  cases ha : ahead x e.t e.m
  ·rfl
  ·have := (cmp_key x e).2 ha
   omega
 have hle : pos ≤ l.length := by have := F.le; omega
 have hla := look_at h h1 h2
 have hth : there = (match l[pos]? with | some x => both x e.t e.m | none => false) := by
  rw [F.is, hkr, List.getElem?_map]
  cases l[pos]? with
  | none => rfl
  | some x =>
   simp only [Option.map_some]
   rw [Bool.eq_iff_iff, decide_eq_true_eq, cmp_key0]
 have hin := ins_at (e := e) hle h1 (fun x hx => h2 pos x (Nat.le_refl _) hx)
 refine ⟨hle, hla.trans hth.symm, ?_, ?_⟩
 ·intro ht
  rw [ht] at hth
  cases hx : l[pos]? with
  | none => rw [hx] at hth; cases hth
  | some x =>
   rw [hx] at hth hin
   have hb : both x e.t e.m = true := hth.symm
   simp only [hb, if_true] at hin
   refine ⟨x, rfl, ?_, hin⟩
   rw [hkr, List.getElem?_map, hx]
   obtain ⟨e1, e2⟩ := both_iff.1 hb
   show some (key0 x) = _
   unfold key0
   rw [e1, e2]
 ·intro ht
  rw [ht] at hth
  refine ⟨?_, ?_⟩
  ·intro hm
   rw [hkr] at hm
   obtain ⟨x, hx, hxe⟩ := List.mem_map.1 hm
   have hxe : x.t = e.t ∧ x.m = e.m := by
    unfold key0 at hxe
    simp at hxe
    exact hxe
   have hl := look_mem h hx
   rw [hxe.1, hxe.2] at hl
   rw [hl, ← hth] at hla
   cases hla
  ·cases hx : l[pos]? with
   | none =>
    rw [hx] at hin
    rw [hin, List.drop_eq_nil_of_le (List.getElem?_eq_none_iff.1 hx)]
   | some x =>
    rw [hx] at hth hin
    have hb : both x e.t e.m = false := hth.symm
    simp only [hb, Bool.false_eq_true, if_false] at hin
    exact hin

end Go.Proofs.YtddalpglihhipaaGreat
