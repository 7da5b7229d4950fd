/-
  Whether two bridges are the same, the program's own.
-/
import Derived.Test.YtfknffdlmcckkaaGreatPTKW
import Derived.Test.YtfknffdlmcckkaaGreatPTBrOkI
import Derived.Test.YtfknffdlmcckkaaGreatPTK01
import Derived.Test.YtfknffdlmcckkaaGreatPTK07
namespace Go.Proofs.YtfknffdlmcckkaaGreat
open Go.RowKit

abbrev q371 : Oper := ⟨some 5, .fieldAddr 31 (.tmp 2) 0, 0, "l11_bridge.go:70", #[], none⟩
abbrev q372 : Oper := ⟨some 6, .load 3 (.tmp 5), 3, "l11_bridge.go:70", #[⟨0, .data⟩], none⟩
abbrev q373 : Oper := ⟨some 7, .fieldAddr 31 (.tmp 3) 0, 0, "l11_bridge.go:70", #[], none⟩
abbrev q374 : Oper := ⟨some 8, .load 3 (.tmp 7), 3, "l11_bridge.go:70", #[⟨2, .data⟩], none⟩
abbrev q375 : Oper := ⟨some 9, .binOp .eql 3 (.tmp 6) (.tmp 8) 3, 4, "l11_bridge.go:70", #[⟨1, .data⟩, ⟨3, .data⟩], none⟩
abbrev q376 : Oper := ⟨some 10, .move (.tmp 9), 4, "l11_bridge.go:70", #[⟨4, .data⟩], none⟩
abbrev q377 : Oper := ⟨some 11, .fieldAddr 31 (.tmp 2) 1, 0, "l11_bridge.go:70", #[⟨5, .guard⟩], some (5, true)⟩
abbrev q378 : Oper := ⟨some 12, .load 9 (.tmp 11), 9, "l11_bridge.go:70", #[⟨6, .data⟩, ⟨5, .guard⟩], some (5, true)⟩
abbrev q379 : Oper := ⟨some 13, .fieldAddr 31 (.tmp 3) 1, 0, "l11_bridge.go:70", #[⟨5, .guard⟩], some (5, true)⟩
abbrev q380 : Oper := ⟨some 14, .load 9 (.tmp 13), 9, "l11_bridge.go:70", #[⟨8, .data⟩, ⟨5, .guard⟩], some (5, true)⟩
abbrev q381 : Oper := ⟨some 15, .binOp .eql 9 (.tmp 12) (.tmp 14) 9, 4, "l11_bridge.go:70", #[⟨7, .data⟩, ⟨9, .data⟩, ⟨5, .guard⟩], some (5, true)⟩
abbrev q382 : Oper := ⟨some 16, .pick (.tmp 10) (.tmp 15) (.const (.bool false)), 4, "l11_bridge.go:70", #[⟨5, .data⟩, ⟨10, .data⟩], none⟩
abbrev q383 : Oper := ⟨some 17, .move (.tmp 16), 4, "l11_bridge.go:70", #[⟨11, .data⟩, ⟨5, .chain⟩], none⟩
abbrev q384 : Oper := ⟨some 18, .fieldAddr 31 (.tmp 2) 2, 0, "l11_bridge.go:70", #[⟨12, .guard⟩], some (12, true)⟩
abbrev q385 : Oper := ⟨some 19, .load 24 (.tmp 18), 24, "l11_bridge.go:70", #[⟨13, .data⟩, ⟨12, .guard⟩], some (12, true)⟩
abbrev q386 : Oper := ⟨some 20, .fieldAddr 31 (.tmp 3) 2, 0, "l11_bridge.go:70", #[⟨12, .guard⟩], some (12, true)⟩
abbrev q387 : Oper := ⟨some 21, .load 24 (.tmp 20), 24, "l11_bridge.go:70", #[⟨15, .data⟩, ⟨12, .guard⟩], some (12, true)⟩
abbrev q388 : Oper := ⟨some 22, .call ⟨.value (.func 45), #[.tmp 19, .tmp 21], #[24, 24]⟩, 4, "l11_bridge.go:70", #[⟨14, .data⟩, ⟨16, .data⟩, ⟨12, .chain⟩, ⟨12, .guard⟩], some (12, true)⟩
abbrev q389 : Oper := ⟨some 23, .pick (.tmp 17) (.tmp 22) (.const (.bool false)), 4, "l11_bridge.go:70", #[⟨12, .data⟩, ⟨17, .data⟩], none⟩
abbrev q390 : Oper := ⟨some 24, .move (.tmp 23), 4, "l11_bridge.go:70", #[⟨18, .data⟩, ⟨17, .chain⟩], none⟩
abbrev q391 : Oper := ⟨some 25, .fieldAddr 31 (.tmp 2) 3, 0, "l11_bridge.go:70", #[⟨19, .guard⟩], some (19, true)⟩
abbrev q392 : Oper := ⟨some 26, .load 25 (.tmp 25), 25, "l11_bridge.go:70", #[⟨20, .data⟩, ⟨19, .guard⟩], some (19, true)⟩
abbrev q393 : Oper := ⟨some 27, .fieldAddr 31 (.tmp 3) 3, 0, "l11_bridge.go:70", #[⟨19, .guard⟩], some (19, true)⟩
abbrev q394 : Oper := ⟨some 28, .load 25 (.tmp 27), 25, "l11_bridge.go:70", #[⟨22, .data⟩, ⟨19, .guard⟩], some (19, true)⟩
abbrev q395 : Oper := ⟨some 29, .call ⟨.value (.func 46), #[.tmp 26, .tmp 28], #[25, 25]⟩, 4, "l11_bridge.go:70", #[⟨21, .data⟩, ⟨23, .data⟩, ⟨19, .chain⟩, ⟨19, .guard⟩], some (19, true)⟩
abbrev q396 : Oper := ⟨some 30, .pick (.tmp 24) (.tmp 29) (.const (.bool false)), 4, "l11_bridge.go:70", #[⟨19, .data⟩, ⟨24, .data⟩], none⟩
abbrev q397 : Oper := ⟨some 31, .move (.tmp 30), 4, "l11_bridge.go:70", #[⟨25, .data⟩, ⟨24, .chain⟩], none⟩
abbrev q398 : Oper := ⟨some 32, .fieldAddr 31 (.tmp 2) 4, 0, "l11_bridge.go:70", #[⟨26, .guard⟩], some (26, true)⟩
abbrev q399 : Oper := ⟨some 33, .fieldAddr 29 (.tmp 32) 0, 0, "l11_bridge.go:70", #[⟨27, .data⟩, ⟨26, .guard⟩], some (26, true)⟩
abbrev q400 : Oper := ⟨some 34, .load 26 (.tmp 33), 26, "l11_bridge.go:70", #[⟨28, .data⟩, ⟨26, .guard⟩], some (26, true)⟩
abbrev q401 : Oper := ⟨some 35, .fieldAddr 31 (.tmp 3) 4, 0, "l11_bridge.go:70", #[⟨26, .guard⟩], some (26, true)⟩
abbrev q402 : Oper := ⟨some 36, .fieldAddr 29 (.tmp 35) 0, 0, "l11_bridge.go:70", #[⟨30, .data⟩, ⟨26, .guard⟩], some (26, true)⟩
abbrev q403 : Oper := ⟨some 37, .load 26 (.tmp 36), 26, "l11_bridge.go:70", #[⟨31, .data⟩, ⟨26, .guard⟩], some (26, true)⟩
abbrev q404 : Oper := ⟨some 38, .call ⟨.value (.func 47), #[.tmp 34, .tmp 37], #[26, 26]⟩, 4, "l11_bridge.go:71", #[⟨29, .data⟩, ⟨32, .data⟩, ⟨26, .chain⟩, ⟨26, .guard⟩], some (26, true)⟩
abbrev q405 : Oper := ⟨some 39, .pick (.tmp 31) (.tmp 38) (.const (.bool false)), 4, "l11_bridge.go:70", #[⟨26, .data⟩, ⟨33, .data⟩], none⟩
abbrev q406 : Oper := ⟨some 40, .move (.tmp 39), 4, "l11_bridge.go:70", #[⟨34, .data⟩, ⟨33, .chain⟩], none⟩
abbrev q407 : Oper := ⟨some 41, .fieldAddr 31 (.tmp 2) 4, 0, "l11_bridge.go:70", #[⟨35, .guard⟩], some (35, true)⟩
abbrev q408 : Oper := ⟨some 42, .fieldAddr 29 (.tmp 41) 1, 0, "l11_bridge.go:70", #[⟨36, .data⟩, ⟨35, .guard⟩], some (35, true)⟩
abbrev q409 : Oper := ⟨some 43, .load 27 (.tmp 42), 27, "l11_bridge.go:70", #[⟨37, .data⟩, ⟨35, .guard⟩], some (35, true)⟩
abbrev q410 : Oper := ⟨some 44, .fieldAddr 31 (.tmp 3) 4, 0, "l11_bridge.go:70", #[⟨35, .guard⟩], some (35, true)⟩
abbrev q411 : Oper := ⟨some 45, .fieldAddr 29 (.tmp 44) 1, 0, "l11_bridge.go:70", #[⟨39, .data⟩, ⟨35, .guard⟩], some (35, true)⟩
abbrev q412 : Oper := ⟨some 46, .load 27 (.tmp 45), 27, "l11_bridge.go:70", #[⟨40, .data⟩, ⟨35, .guard⟩], some (35, true)⟩
abbrev q413 : Oper := ⟨some 47, .call ⟨.value (.func 48), #[.tmp 43, .tmp 46], #[27, 27]⟩, 4, "l11_bridge.go:71", #[⟨38, .data⟩, ⟨41, .data⟩, ⟨35, .chain⟩, ⟨35, .guard⟩], some (35, true)⟩
abbrev q414 : Oper := ⟨some 48, .pick (.tmp 40) (.tmp 47) (.const (.bool false)), 4, "l11_bridge.go:70", #[⟨35, .data⟩, ⟨42, .data⟩], none⟩
abbrev q415 : Oper := ⟨some 49, .move (.tmp 48), 4, "l11_bridge.go:70", #[⟨43, .data⟩, ⟨42, .chain⟩], none⟩
abbrev q416 : Oper := ⟨some 50, .load 31 (.tmp 2), 31, "l11_bridge.go:70", #[⟨44, .guard⟩], some (44, true)⟩
abbrev q417 : Oper := ⟨some 51, .call ⟨.value (.func 49), #[.tmp 50], #[31]⟩, 83, "l11_bridge.go:71", #[⟨45, .data⟩, ⟨44, .chain⟩, ⟨44, .guard⟩], some (44, true)⟩
abbrev q418 : Oper := ⟨some 52, .load 31 (.tmp 3), 31, "l11_bridge.go:70", #[⟨44, .guard⟩], some (44, true)⟩
abbrev q419 : Oper := ⟨some 53, .call ⟨.value (.func 49), #[.tmp 52], #[31]⟩, 83, "l11_bridge.go:71", #[⟨47, .data⟩, ⟨46, .chain⟩, ⟨44, .guard⟩], some (44, true)⟩
abbrev q420 : Oper := ⟨some 54, .binOp .eql 83 (.tmp 51) (.tmp 53) 83, 4, "l11_bridge.go:70", #[⟨46, .data⟩, ⟨48, .data⟩, ⟨44, .guard⟩], some (44, true)⟩
abbrev q421 : Oper := ⟨some 55, .pick (.tmp 49) (.tmp 54) (.const (.bool false)), 4, "l11_bridge.go:70", #[⟨44, .data⟩, ⟨49, .data⟩], none⟩
abbrev q422 : Oper := ⟨some 4, .assign (.tmp 55), 4, "l11_bridge.go:70", #[⟨50, .data⟩, ⟨48, .chain⟩, ⟨0, .phase⟩, ⟨1, .phase⟩, ⟨2, .phase⟩, ⟨3, .phase⟩, ⟨4, .phase⟩, ⟨5, .phase⟩, ⟨6, .phase⟩, ⟨7, .phase⟩, ⟨8, .phase⟩, ⟨9, .phase⟩, ⟨10, .phase⟩, ⟨11, .phase⟩, ⟨12, .phase⟩, ⟨13, .phase⟩, ⟨14, .phase⟩, ⟨15, .phase⟩, ⟨16, .phase⟩, ⟨17, .phase⟩, ⟨18, .phase⟩, ⟨19, .phase⟩, ⟨20, .phase⟩, ⟨21, .phase⟩, ⟨22, .phase⟩, ⟨23, .phase⟩, ⟨24, .phase⟩, ⟨25, .phase⟩, ⟨26, .phase⟩, ⟨27, .phase⟩, ⟨28, .phase⟩, ⟨29, .phase⟩, ⟨30, .phase⟩, ⟨31, .phase⟩, ⟨32, .phase⟩, ⟨33, .phase⟩, ⟨34, .phase⟩, ⟨35, .phase⟩, ⟨36, .phase⟩, ⟨37, .phase⟩, ⟨38, .phase⟩, ⟨39, .phase⟩, ⟨40, .phase⟩, ⟨41, .phase⟩, ⟨42, .phase⟩, ⟨43, .phase⟩, ⟨44, .phase⟩, ⟨45, .phase⟩, ⟨46, .phase⟩, ⟨47, .phase⟩, ⟨48, .phase⟩, ⟨49, .phase⟩, ⟨50, .phase⟩], none⟩

theorem text_eq {a b : ByteArray} (h : a.toList = b.toList) : a = b := by
 rw [ByteArray.toList_eq, ByteArray.toList_eq] at h
 exact ByteArray.ext (Array.toList_inj.mp h)

theorem same_end {A B : BR} (e0 : A.id = B.id) (e1 : A.name = B.name) (e2 : A.ports = B.ports) (e3 : A.f = B.f) (e4 : A.v.rows = B.v.rows) (e5 : A.v.own = B.v.own) : ((A.ticks == B.ticks) && ((A.parse == B.parse) && ((A.word == B.word) && ((A.drops == B.drops) && (A.vers == B.vers))))) = true ↔ A = B := by
 obtain ⟨i, nm, p, f, ⟨r, o⟩, t, pa, wo, d, v⟩ := A
 obtain ⟨i', nm', p', f', ⟨r', o'⟩, t', pa', wo', d', v'⟩ := B
 simp only at e0 e1 e2 e3 e4 e5
 subst e0 e1 e2 e3 e4 e5
 simp

set_option maxRecDepth 100000 in
set_option maxHeartbeats 16000000 in
theorem implSameB_any (a : Option Addr) (n c : Nat) (fa : Option Addr) (fn fc : Nat) (ra : Option Addr) (rn rc : Nat) (oa : Option Addr) (on oc : Nat) (A : BR) (a2 : Option Addr) (n2 c2 : Nat) (fa2 : Option Addr) (fn2 fc2 : Nat) (ra2 : Option Addr) (rn2 rc2 : Nat) (oa2 : Option Addr) (on2 oc2 : Nat) (B : BR) (w : World) (h : BrRow w a n c fa fn fc ra rn rc oa on oc A) (h2 : BrRow w a2 n2 c2 fa2 fn2 fc2 ra2 rn2 rc2 oa2 on2 oc2 B) :
  Calls Tryz.prog 13 #[.agg #[.int .i64 A.id, .string A.name, .slice a n c, .slice fa fn fc, .slice ra rn rc, .slice oa on oc, .int .i64 A.ticks, .int .i64 A.parse, .int .i64 A.word, .int .i64 A.drops, .int .i64 A.vers], .agg #[.int .i64 B.id, .string B.name, .slice a2 n2 c2, .slice fa2 fn2 fc2, .slice ra2 rn2 rc2, .slice oa2 on2 oc2, .int .i64 B.ticks, .int .i64 B.parse, .int .i64 B.word, .int .i64 B.drops, .int .i64 B.vers]] w fun e w' => ∃ q : Bool, e = .returned (.bool q) ∧ (q = true ↔ A = B) ∧ Below w.heap.size w w' := by
 generalize hw1 : w.alloc (Obj.cells #[.int .i64 A.id, .string A.name, .slice a n c, .slice fa fn fc, .slice ra rn rc, .slice oa on oc, .int .i64 A.ticks, .int .i64 A.parse, .int .i64 A.word, .int .i64 A.drops, .int .i64 A.vers] 31) = w1
 generalize hw2 : w1.alloc (Obj.cells #[.int .i64 B.id, .string B.name, .slice a2 n2 c2, .slice fa2 fn2 fc2, .slice ra2 rn2 rc2, .slice oa2 on2 oc2, .int .i64 B.ticks, .int .i64 B.parse, .int .i64 B.word, .int .i64 B.drops, .int .i64 B.vers] 31) = w2
 have b01 : Below w.heap.size w w1 := by rw [← hw1]; exact below_one _ _
 have b12 : Below w1.heap.size w1 w2 := by rw [← hw2]; exact below_one _ _
 have b02 := gr_trans b01 b12
 have k1 : w2.heap[w.heap.size]? = some (.cells #[.int .i64 A.id, .string A.name, .slice a n c, .slice fa fn fc, .slice ra rn rc, .slice oa on oc, .int .i64 A.ticks, .int .i64 A.parse, .int .i64 A.word, .int .i64 A.drops, .int .i64 A.vers] 31) := kept_block (by rw [← hw1]; exact block_last _ _) b12
 have k2 : w2.heap[w1.heap.size]? = some (.cells #[.int .i64 B.id, .string B.name, .slice a2 n2 c2, .slice fa2 fn2 fc2, .slice ra2 rn2 rc2, .slice oa2 on2 oc2, .int .i64 B.ticks, .int .i64 B.parse, .int .i64 B.word, .int .i64 B.drops, .int .i64 B.vers] 31) := by rw [← hw2]; exact block_last _ _
 have HS : Hid (∀ W, Below w2.heap.size w2 W → (fun W => (W.cell? ⟨w.heap.size, 0, none⟩ = some (.int .i64 A.id) ∧ W.cell? ⟨w.heap.size, 1, none⟩ = some (.string A.name) ∧ W.cell? ⟨w.heap.size, 2, none⟩ = some (.slice a n c) ∧ W.cell? ⟨w.heap.size, 3, none⟩ = some (.slice fa fn fc) ∧ W.cell? ⟨w.heap.size, 4, none⟩ = some (.slice ra rn rc) ∧ W.cell? ⟨w.heap.size, 5, none⟩ = some (.slice oa on oc) ∧ W.cell? ⟨w.heap.size, 6, none⟩ = some (.int .i64 A.ticks) ∧ W.cell? ⟨w.heap.size, 7, none⟩ = some (.int .i64 A.parse) ∧ W.cell? ⟨w.heap.size, 8, none⟩ = some (.int .i64 A.word) ∧ W.cell? ⟨w.heap.size, 9, none⟩ = some (.int .i64 A.drops) ∧ W.cell? ⟨w.heap.size, 10, none⟩ = some (.int .i64 A.vers)) ∧ (W.cell? ⟨w1.heap.size, 0, none⟩ = some (.int .i64 B.id) ∧ W.cell? ⟨w1.heap.size, 1, none⟩ = some (.string B.name) ∧ W.cell? ⟨w1.heap.size, 2, none⟩ = some (.slice a2 n2 c2) ∧ W.cell? ⟨w1.heap.size, 3, none⟩ = some (.slice fa2 fn2 fc2) ∧ W.cell? ⟨w1.heap.size, 4, none⟩ = some (.slice ra2 rn2 rc2) ∧ W.cell? ⟨w1.heap.size, 5, none⟩ = some (.slice oa2 on2 oc2) ∧ W.cell? ⟨w1.heap.size, 6, none⟩ = some (.int .i64 B.ticks) ∧ W.cell? ⟨w1.heap.size, 7, none⟩ = some (.int .i64 B.parse) ∧ W.cell? ⟨w1.heap.size, 8, none⟩ = some (.int .i64 B.word) ∧ W.cell? ⟨w1.heap.size, 9, none⟩ = some (.int .i64 B.drops) ∧ W.cell? ⟨w1.heap.size, 10, none⟩ = some (.int .i64 B.vers))) W) := hide (fun W hW => ⟨cells11 (kept_block k1 hW), cells11 (kept_block k2 hW)⟩)
 have vv : Below w2.heap.size w2 w2.drew := gr_drew (Below.refl _ _)
 go_enter Tryz.func13, Tryz.ntmps13
 go_wp2_with fail
 clear hw1 hw2 b01 b12 k1 k2
 by_cases e0 : A.id = B.id
 rotate_left
 ·have HNO : Hid (¬ A = B) := hide (fun e => e0 (by rw [e]))
  have hno := e0
  refine wp_region_held_drew (S := (fun W => (W.cell? ⟨w.heap.size, 0, none⟩ = some (.int .i64 A.id) ∧ W.cell? ⟨w.heap.size, 1, none⟩ = some (.string A.name) ∧ W.cell? ⟨w.heap.size, 2, none⟩ = some (.slice a n c) ∧ W.cell? ⟨w.heap.size, 3, none⟩ = some (.slice fa fn fc) ∧ W.cell? ⟨w.heap.size, 4, none⟩ = some (.slice ra rn rc) ∧ W.cell? ⟨w.heap.size, 5, none⟩ = some (.slice oa on oc) ∧ W.cell? ⟨w.heap.size, 6, none⟩ = some (.int .i64 A.ticks) ∧ W.cell? ⟨w.heap.size, 7, none⟩ = some (.int .i64 A.parse) ∧ W.cell? ⟨w.heap.size, 8, none⟩ = some (.int .i64 A.word) ∧ W.cell? ⟨w.heap.size, 9, none⟩ = some (.int .i64 A.drops) ∧ W.cell? ⟨w.heap.size, 10, none⟩ = some (.int .i64 A.vers)) ∧ (W.cell? ⟨w1.heap.size, 0, none⟩ = some (.int .i64 B.id) ∧ W.cell? ⟨w1.heap.size, 1, none⟩ = some (.string B.name) ∧ W.cell? ⟨w1.heap.size, 2, none⟩ = some (.slice a2 n2 c2) ∧ W.cell? ⟨w1.heap.size, 3, none⟩ = some (.slice fa2 fn2 fc2) ∧ W.cell? ⟨w1.heap.size, 4, none⟩ = some (.slice ra2 rn2 rc2) ∧ W.cell? ⟨w1.heap.size, 5, none⟩ = some (.slice oa2 on2 oc2) ∧ W.cell? ⟨w1.heap.size, 6, none⟩ = some (.int .i64 B.ticks) ∧ W.cell? ⟨w1.heap.size, 7, none⟩ = some (.int .i64 B.parse) ∧ W.cell? ⟨w1.heap.size, 8, none⟩ = some (.int .i64 B.word) ∧ W.cell? ⟨w1.heap.size, 9, none⟩ = some (.int .i64 B.drops) ∧ W.cell? ⟨w1.heap.size, 10, none⟩ = some (.int .i64 B.vers)))) (by kernel_rfl) (HS.out _ vv) (fun hHeld => ?_)
  refine kK 0 q371 ?_
  refine kK 1 q372 ?_
  refine kK 2 q373 ?_
  refine kK 3 q374 ?_
  refine kV 4 q375 (.bool false) ?_
  refine kK 5 q376 ?_
  refine kN 6 q377 ?_
  refine kN 7 q378 ?_
  refine kN 8 q379 ?_
  refine kN 9 q380 ?_
  refine kN 10 q381 ?_
  refine kK 11 q382 ?_
  refine kK 12 q383 ?_
  refine kN 13 q384 ?_
  refine kN 14 q385 ?_
  refine kN 15 q386 ?_
  refine kN 16 q387 ?_
  refine kN 17 q388 ?_
  refine kK 18 q389 ?_
  refine kK 19 q390 ?_
  refine kN 20 q391 ?_
  refine kN 21 q392 ?_
  refine kN 22 q393 ?_
  refine kN 23 q394 ?_
  refine kN 24 q395 ?_
  refine kK 25 q396 ?_
  refine kK 26 q397 ?_
  refine kN 27 q398 ?_
  refine kN 28 q399 ?_
  refine kN 29 q400 ?_
  refine kN 30 q401 ?_
  refine kN 31 q402 ?_
  refine kN 32 q403 ?_
  refine kN 33 q404 ?_
  refine kK 34 q405 ?_
  refine kK 35 q406 ?_
  refine kN 36 q407 ?_
  refine kN 37 q408 ?_
  refine kN 38 q409 ?_
  refine kN 39 q410 ?_
  refine kN 40 q411 ?_
  refine kN 41 q412 ?_
  refine kN 42 q413 ?_
  refine kK 43 q414 ?_
  refine kK 44 q415 ?_
  refine kN 45 q416 ?_
  refine kN 46 q417 ?_
  refine kN 47 q418 ?_
  refine kN 48 q419 ?_
  refine kN 49 q420 ?_
  refine kK 50 q421 ?_
  refine kK 51 q422 ?_
  refine wpAnyH_done (by kernel_rfl) ?_ _
  have HB := hide (gr_trans b02 vv)
  clear HS vv hHeld
  go_wp2
  go_ret
  exact ⟨false, rfl, ⟨(fun e => by cases e), fun e => absurd e HNO.out⟩, HB.out⟩
 by_cases e1 : A.name = B.name
 rotate_left
 ·have HNO : Hid (¬ A = B) := hide (fun e => e1 (by rw [e]))
  have hno := e1
  have hnb : (A.name.toList == B.name.toList) = false := by rw [Bool.eq_false_iff]; intro e; exact hno (text_eq (by simpa using e))
  refine wp_region_held_drew (S := (fun W => (W.cell? ⟨w.heap.size, 0, none⟩ = some (.int .i64 A.id) ∧ W.cell? ⟨w.heap.size, 1, none⟩ = some (.string A.name) ∧ W.cell? ⟨w.heap.size, 2, none⟩ = some (.slice a n c) ∧ W.cell? ⟨w.heap.size, 3, none⟩ = some (.slice fa fn fc) ∧ W.cell? ⟨w.heap.size, 4, none⟩ = some (.slice ra rn rc) ∧ W.cell? ⟨w.heap.size, 5, none⟩ = some (.slice oa on oc) ∧ W.cell? ⟨w.heap.size, 6, none⟩ = some (.int .i64 A.ticks) ∧ W.cell? ⟨w.heap.size, 7, none⟩ = some (.int .i64 A.parse) ∧ W.cell? ⟨w.heap.size, 8, none⟩ = some (.int .i64 A.word) ∧ W.cell? ⟨w.heap.size, 9, none⟩ = some (.int .i64 A.drops) ∧ W.cell? ⟨w.heap.size, 10, none⟩ = some (.int .i64 A.vers)) ∧ (W.cell? ⟨w1.heap.size, 0, none⟩ = some (.int .i64 B.id) ∧ W.cell? ⟨w1.heap.size, 1, none⟩ = some (.string B.name) ∧ W.cell? ⟨w1.heap.size, 2, none⟩ = some (.slice a2 n2 c2) ∧ W.cell? ⟨w1.heap.size, 3, none⟩ = some (.slice fa2 fn2 fc2) ∧ W.cell? ⟨w1.heap.size, 4, none⟩ = some (.slice ra2 rn2 rc2) ∧ W.cell? ⟨w1.heap.size, 5, none⟩ = some (.slice oa2 on2 oc2) ∧ W.cell? ⟨w1.heap.size, 6, none⟩ = some (.int .i64 B.ticks) ∧ W.cell? ⟨w1.heap.size, 7, none⟩ = some (.int .i64 B.parse) ∧ W.cell? ⟨w1.heap.size, 8, none⟩ = some (.int .i64 B.word) ∧ W.cell? ⟨w1.heap.size, 9, none⟩ = some (.int .i64 B.drops) ∧ W.cell? ⟨w1.heap.size, 10, none⟩ = some (.int .i64 B.vers)))) (by kernel_rfl) (HS.out _ vv) (fun hHeld => ?_)
  refine kK 0 q371 ?_
  refine kK 1 q372 ?_
  refine kK 2 q373 ?_
  refine kK 3 q374 ?_
  refine kV 4 q375 (.bool true) ?_
  refine kK 5 q376 ?_
  refine kK 6 q377 ?_
  refine kK 7 q378 ?_
  refine kK 8 q379 ?_
  refine kK 9 q380 ?_
  refine kV 10 q381 (.bool false) ?_
  refine kK 11 q382 ?_
  refine kK 12 q383 ?_
  refine kN 13 q384 ?_
  refine kN 14 q385 ?_
  refine kN 15 q386 ?_
  refine kN 16 q387 ?_
  refine kN 17 q388 ?_
  refine kK 18 q389 ?_
  refine kK 19 q390 ?_
  refine kN 20 q391 ?_
  refine kN 21 q392 ?_
  refine kN 22 q393 ?_
  refine kN 23 q394 ?_
  refine kN 24 q395 ?_
  refine kK 25 q396 ?_
  refine kK 26 q397 ?_
  refine kN 27 q398 ?_
  refine kN 28 q399 ?_
  refine kN 29 q400 ?_
  refine kN 30 q401 ?_
  refine kN 31 q402 ?_
  refine kN 32 q403 ?_
  refine kN 33 q404 ?_
  refine kK 34 q405 ?_
  refine kK 35 q406 ?_
  refine kN 36 q407 ?_
  refine kN 37 q408 ?_
  refine kN 38 q409 ?_
  refine kN 39 q410 ?_
  refine kN 40 q411 ?_
  refine kN 41 q412 ?_
  refine kN 42 q413 ?_
  refine kK 43 q414 ?_
  refine kK 44 q415 ?_
  refine kN 45 q416 ?_
  refine kN 46 q417 ?_
  refine kN 47 q418 ?_
  refine kN 48 q419 ?_
  refine kN 49 q420 ?_
  refine kK 50 q421 ?_
  refine kK 51 q422 ?_
  refine wpAnyH_done (by kernel_rfl) ?_ _
  have HB := hide (gr_trans b02 vv)
  clear HS vv hHeld
  go_wp2
  go_ret
  exact ⟨false, rfl, ⟨(fun e => by cases e), fun e => absurd e HNO.out⟩, HB.out⟩
 by_cases e2 : A.ports = B.ports
 rotate_left
 ·have HNO : Hid (¬ A = B) := hide (fun e => e2 (by rw [e]))
  have hno := e2
  have hnb : (A.name.toList == B.name.toList) = true := by rw [e1]; simp
  refine wp_region_held_drew (S := (fun W => (W.cell? ⟨w.heap.size, 0, none⟩ = some (.int .i64 A.id) ∧ W.cell? ⟨w.heap.size, 1, none⟩ = some (.string A.name) ∧ W.cell? ⟨w.heap.size, 2, none⟩ = some (.slice a n c) ∧ W.cell? ⟨w.heap.size, 3, none⟩ = some (.slice fa fn fc) ∧ W.cell? ⟨w.heap.size, 4, none⟩ = some (.slice ra rn rc) ∧ W.cell? ⟨w.heap.size, 5, none⟩ = some (.slice oa on oc) ∧ W.cell? ⟨w.heap.size, 6, none⟩ = some (.int .i64 A.ticks) ∧ W.cell? ⟨w.heap.size, 7, none⟩ = some (.int .i64 A.parse) ∧ W.cell? ⟨w.heap.size, 8, none⟩ = some (.int .i64 A.word) ∧ W.cell? ⟨w.heap.size, 9, none⟩ = some (.int .i64 A.drops) ∧ W.cell? ⟨w.heap.size, 10, none⟩ = some (.int .i64 A.vers)) ∧ (W.cell? ⟨w1.heap.size, 0, none⟩ = some (.int .i64 B.id) ∧ W.cell? ⟨w1.heap.size, 1, none⟩ = some (.string B.name) ∧ W.cell? ⟨w1.heap.size, 2, none⟩ = some (.slice a2 n2 c2) ∧ W.cell? ⟨w1.heap.size, 3, none⟩ = some (.slice fa2 fn2 fc2) ∧ W.cell? ⟨w1.heap.size, 4, none⟩ = some (.slice ra2 rn2 rc2) ∧ W.cell? ⟨w1.heap.size, 5, none⟩ = some (.slice oa2 on2 oc2) ∧ W.cell? ⟨w1.heap.size, 6, none⟩ = some (.int .i64 B.ticks) ∧ W.cell? ⟨w1.heap.size, 7, none⟩ = some (.int .i64 B.parse) ∧ W.cell? ⟨w1.heap.size, 8, none⟩ = some (.int .i64 B.word) ∧ W.cell? ⟨w1.heap.size, 9, none⟩ = some (.int .i64 B.drops) ∧ W.cell? ⟨w1.heap.size, 10, none⟩ = some (.int .i64 B.vers)))) (by kernel_rfl) (HS.out _ vv) (fun hHeld => ?_)
  refine kK 0 q371 ?_
  refine kK 1 q372 ?_
  refine kK 2 q373 ?_
  refine kK 3 q374 ?_
  refine kV 4 q375 (.bool true) ?_
  refine kK 5 q376 ?_
  refine kK 6 q377 ?_
  refine kK 7 q378 ?_
  refine kK 8 q379 ?_
  refine kK 9 q380 ?_
  refine kV 10 q381 (.bool true) ?_
  refine kK 11 q382 ?_
  refine kK 12 q383 ?_
  refine kK 13 q384 ?_
  refine kK 14 q385 ?_
  refine kK 15 q386 ?_
  refine kK 16 q387 ?_
  refine tR [17] ?_
  refine AllReadyH.cons (o := q388) rfl (fun K hK => ?_) ?_
  ·go_simp
   refine (eqPt_any a n c A.ports a2 n2 c2 B.ports _ ((h.ports).below (gr_trans b02 vv)) ((h2.ports).below (gr_trans b02 vv))).mono ?_
   rintro e wt ⟨q, rfl, hq, hbt⟩
   obtain rfl : q = false := by cases hqq : q; rfl; exact absurd (hq.1 hqq) hno
   have vv := gr_trans vv hbt
   clear hq hbt
   go_wp2_with fail
   refine hK.out _ _ (HS.out _ vv) (fun hHeld => ?_)
   clear hK K
   try simp only [Act.put, lA, lB, lC]
   refine kK 18 q389 ?_
   refine kK 19 q390 ?_
   refine kN 20 q391 ?_
   refine kN 21 q392 ?_
   refine kN 22 q393 ?_
   refine kN 23 q394 ?_
   refine kN 24 q395 ?_
   refine kK 25 q396 ?_
   refine kK 26 q397 ?_
   refine kN 27 q398 ?_
   refine kN 28 q399 ?_
   refine kN 29 q400 ?_
   refine kN 30 q401 ?_
   refine kN 31 q402 ?_
   refine kN 32 q403 ?_
   refine kN 33 q404 ?_
   refine kK 34 q405 ?_
   refine kK 35 q406 ?_
   refine kN 36 q407 ?_
   refine kN 37 q408 ?_
   refine kN 38 q409 ?_
   refine kN 39 q410 ?_
   refine kN 40 q411 ?_
   refine kN 41 q412 ?_
   refine kN 42 q413 ?_
   refine kK 43 q414 ?_
   refine kK 44 q415 ?_
   refine kN 45 q416 ?_
   refine kN 46 q417 ?_
   refine kN 47 q418 ?_
   refine kN 48 q419 ?_
   refine kN 49 q420 ?_
   refine kK 50 q421 ?_
   refine kK 51 q422 ?_
   refine wpAnyH_done (by kernel_rfl) ?_ _
   have HB := hide (gr_trans b02 vv)
   clear HS vv hHeld
   go_wp2
   go_ret
   exact ⟨false, rfl, ⟨(fun e => by cases e), fun e => absurd e HNO.out⟩, HB.out⟩
  exact AllReadyH.nil
 by_cases e3 : A.f = B.f
 rotate_left
 ·have HNO : Hid (¬ A = B) := hide (fun e => e3 (by rw [e]))
  have hno := e3
  have hnb : (A.name.toList == B.name.toList) = true := by rw [e1]; simp
  refine wp_region_held_drew (S := (fun W => (W.cell? ⟨w.heap.size, 0, none⟩ = some (.int .i64 A.id) ∧ W.cell? ⟨w.heap.size, 1, none⟩ = some (.string A.name) ∧ W.cell? ⟨w.heap.size, 2, none⟩ = some (.slice a n c) ∧ W.cell? ⟨w.heap.size, 3, none⟩ = some (.slice fa fn fc) ∧ W.cell? ⟨w.heap.size, 4, none⟩ = some (.slice ra rn rc) ∧ W.cell? ⟨w.heap.size, 5, none⟩ = some (.slice oa on oc) ∧ W.cell? ⟨w.heap.size, 6, none⟩ = some (.int .i64 A.ticks) ∧ W.cell? ⟨w.heap.size, 7, none⟩ = some (.int .i64 A.parse) ∧ W.cell? ⟨w.heap.size, 8, none⟩ = some (.int .i64 A.word) ∧ W.cell? ⟨w.heap.size, 9, none⟩ = some (.int .i64 A.drops) ∧ W.cell? ⟨w.heap.size, 10, none⟩ = some (.int .i64 A.vers)) ∧ (W.cell? ⟨w1.heap.size, 0, none⟩ = some (.int .i64 B.id) ∧ W.cell? ⟨w1.heap.size, 1, none⟩ = some (.string B.name) ∧ W.cell? ⟨w1.heap.size, 2, none⟩ = some (.slice a2 n2 c2) ∧ W.cell? ⟨w1.heap.size, 3, none⟩ = some (.slice fa2 fn2 fc2) ∧ W.cell? ⟨w1.heap.size, 4, none⟩ = some (.slice ra2 rn2 rc2) ∧ W.cell? ⟨w1.heap.size, 5, none⟩ = some (.slice oa2 on2 oc2) ∧ W.cell? ⟨w1.heap.size, 6, none⟩ = some (.int .i64 B.ticks) ∧ W.cell? ⟨w1.heap.size, 7, none⟩ = some (.int .i64 B.parse) ∧ W.cell? ⟨w1.heap.size, 8, none⟩ = some (.int .i64 B.word) ∧ W.cell? ⟨w1.heap.size, 9, none⟩ = some (.int .i64 B.drops) ∧ W.cell? ⟨w1.heap.size, 10, none⟩ = some (.int .i64 B.vers)))) (by kernel_rfl) (HS.out _ vv) (fun hHeld => ?_)
  refine kK 0 q371 ?_
  refine kK 1 q372 ?_
  refine kK 2 q373 ?_
  refine kK 3 q374 ?_
  refine kV 4 q375 (.bool true) ?_
  refine kK 5 q376 ?_
  refine kK 6 q377 ?_
  refine kK 7 q378 ?_
  refine kK 8 q379 ?_
  refine kK 9 q380 ?_
  refine kV 10 q381 (.bool true) ?_
  refine kK 11 q382 ?_
  refine kK 12 q383 ?_
  refine kK 13 q384 ?_
  refine kK 14 q385 ?_
  refine kK 15 q386 ?_
  refine kK 16 q387 ?_
  refine tR [17] ?_
  refine AllReadyH.cons (o := q388) rfl (fun K hK => ?_) ?_
  ·go_simp
   refine (eqPt_any a n c A.ports a2 n2 c2 B.ports _ ((h.ports).below (gr_trans b02 vv)) ((h2.ports).below (gr_trans b02 vv))).mono ?_
   rintro e wt ⟨q, rfl, hq, hbt⟩
   obtain rfl : q = true := hq.2 e2
   have vv := gr_trans vv hbt
   clear hq hbt
   go_wp2_with fail
   refine hK.out _ _ (HS.out _ vv) (fun hHeld => ?_)
   clear hK K
   try simp only [Act.put, lA, lB, lC]
   refine kK 18 q389 ?_
   refine kK 19 q390 ?_
   refine kK 20 q391 ?_
   refine kK 21 q392 ?_
   refine kK 22 q393 ?_
   refine kK 23 q394 ?_
   refine tR [24] ?_
   refine AllReadyH.cons (o := q395) rfl (fun K hK => ?_) ?_
   ·go_simp
    refine (eqFent_any fa fn fc A.f fa2 fn2 fc2 B.f _ ((h.f).below (gr_trans b02 vv)) ((h2.f).below (gr_trans b02 vv))).mono ?_
    rintro e wt ⟨q, rfl, hq, hbt⟩
    obtain rfl : q = false := by cases hqq : q; rfl; exact absurd (hq.1 hqq) hno
    have vv := gr_trans vv hbt
    clear hq hbt
    go_wp2_with fail
    refine hK.out _ _ (HS.out _ vv) (fun hHeld => ?_)
    clear hK K
    try simp only [Act.put, lA, lB, lC]
    refine kK 25 q396 ?_
    refine kK 26 q397 ?_
    refine kN 27 q398 ?_
    refine kN 28 q399 ?_
    refine kN 29 q400 ?_
    refine kN 30 q401 ?_
    refine kN 31 q402 ?_
    refine kN 32 q403 ?_
    refine kN 33 q404 ?_
    refine kK 34 q405 ?_
    refine kK 35 q406 ?_
    refine kN 36 q407 ?_
    refine kN 37 q408 ?_
    refine kN 38 q409 ?_
    refine kN 39 q410 ?_
    refine kN 40 q411 ?_
    refine kN 41 q412 ?_
    refine kN 42 q413 ?_
    refine kK 43 q414 ?_
    refine kK 44 q415 ?_
    refine kN 45 q416 ?_
    refine kN 46 q417 ?_
    refine kN 47 q418 ?_
    refine kN 48 q419 ?_
    refine kN 49 q420 ?_
    refine kK 50 q421 ?_
    refine kK 51 q422 ?_
    refine wpAnyH_done (by kernel_rfl) ?_ _
    have HB := hide (gr_trans b02 vv)
    clear HS vv hHeld
    go_wp2
    go_ret
    exact ⟨false, rfl, ⟨(fun e => by cases e), fun e => absurd e HNO.out⟩, HB.out⟩
   exact AllReadyH.nil
  exact AllReadyH.nil
 by_cases e4 : A.v.rows = B.v.rows
 rotate_left
 ·have HNO : Hid (¬ A = B) := hide (fun e => e4 (by rw [e]))
  have hno := e4
  have hnb : (A.name.toList == B.name.toList) = true := by rw [e1]; simp
  refine wp_region_held_drew (S := (fun W => (W.cell? ⟨w.heap.size, 0, none⟩ = some (.int .i64 A.id) ∧ W.cell? ⟨w.heap.size, 1, none⟩ = some (.string A.name) ∧ W.cell? ⟨w.heap.size, 2, none⟩ = some (.slice a n c) ∧ W.cell? ⟨w.heap.size, 3, none⟩ = some (.slice fa fn fc) ∧ W.cell? ⟨w.heap.size, 4, none⟩ = some (.slice ra rn rc) ∧ W.cell? ⟨w.heap.size, 5, none⟩ = some (.slice oa on oc) ∧ W.cell? ⟨w.heap.size, 6, none⟩ = some (.int .i64 A.ticks) ∧ W.cell? ⟨w.heap.size, 7, none⟩ = some (.int .i64 A.parse) ∧ W.cell? ⟨w.heap.size, 8, none⟩ = some (.int .i64 A.word) ∧ W.cell? ⟨w.heap.size, 9, none⟩ = some (.int .i64 A.drops) ∧ W.cell? ⟨w.heap.size, 10, none⟩ = some (.int .i64 A.vers)) ∧ (W.cell? ⟨w1.heap.size, 0, none⟩ = some (.int .i64 B.id) ∧ W.cell? ⟨w1.heap.size, 1, none⟩ = some (.string B.name) ∧ W.cell? ⟨w1.heap.size, 2, none⟩ = some (.slice a2 n2 c2) ∧ W.cell? ⟨w1.heap.size, 3, none⟩ = some (.slice fa2 fn2 fc2) ∧ W.cell? ⟨w1.heap.size, 4, none⟩ = some (.slice ra2 rn2 rc2) ∧ W.cell? ⟨w1.heap.size, 5, none⟩ = some (.slice oa2 on2 oc2) ∧ W.cell? ⟨w1.heap.size, 6, none⟩ = some (.int .i64 B.ticks) ∧ W.cell? ⟨w1.heap.size, 7, none⟩ = some (.int .i64 B.parse) ∧ W.cell? ⟨w1.heap.size, 8, none⟩ = some (.int .i64 B.word) ∧ W.cell? ⟨w1.heap.size, 9, none⟩ = some (.int .i64 B.drops) ∧ W.cell? ⟨w1.heap.size, 10, none⟩ = some (.int .i64 B.vers)))) (by kernel_rfl) (HS.out _ vv) (fun hHeld => ?_)
  refine kK 0 q371 ?_
  refine kK 1 q372 ?_
  refine kK 2 q373 ?_
  refine kK 3 q374 ?_
  refine kV 4 q375 (.bool true) ?_
  refine kK 5 q376 ?_
  refine kK 6 q377 ?_
  refine kK 7 q378 ?_
  refine kK 8 q379 ?_
  refine kK 9 q380 ?_
  refine kV 10 q381 (.bool true) ?_
  refine kK 11 q382 ?_
  refine kK 12 q383 ?_
  refine kK 13 q384 ?_
  refine kK 14 q385 ?_
  refine kK 15 q386 ?_
  refine kK 16 q387 ?_
  refine tR [17] ?_
  refine AllReadyH.cons (o := q388) rfl (fun K hK => ?_) ?_
  ·go_simp
   refine (eqPt_any a n c A.ports a2 n2 c2 B.ports _ ((h.ports).below (gr_trans b02 vv)) ((h2.ports).below (gr_trans b02 vv))).mono ?_
   rintro e wt ⟨q, rfl, hq, hbt⟩
   obtain rfl : q = true := hq.2 e2
   have vv := gr_trans vv hbt
   clear hq hbt
   go_wp2_with fail
   refine hK.out _ _ (HS.out _ vv) (fun hHeld => ?_)
   clear hK K
   try simp only [Act.put, lA, lB, lC]
   refine kK 18 q389 ?_
   refine kK 19 q390 ?_
   refine kK 20 q391 ?_
   refine kK 21 q392 ?_
   refine kK 22 q393 ?_
   refine kK 23 q394 ?_
   refine tR [24] ?_
   refine AllReadyH.cons (o := q395) rfl (fun K hK => ?_) ?_
   ·go_simp
    refine (eqFent_any fa fn fc A.f fa2 fn2 fc2 B.f _ ((h.f).below (gr_trans b02 vv)) ((h2.f).below (gr_trans b02 vv))).mono ?_
    rintro e wt ⟨q, rfl, hq, hbt⟩
    obtain rfl : q = true := hq.2 e3
    have vv := gr_trans vv hbt
    clear hq hbt
    go_wp2_with fail
    refine hK.out _ _ (HS.out _ vv) (fun hHeld => ?_)
    clear hK K
    try simp only [Act.put, lA, lB, lC]
    refine kK 25 q396 ?_
    refine kK 26 q397 ?_
    refine kK 27 q398 ?_
    refine kK 28 q399 ?_
    refine kK 29 q400 ?_
    refine kK 30 q401 ?_
    refine kK 31 q402 ?_
    refine kK 32 q403 ?_
    refine tR [33] ?_
    refine AllReadyH.cons (o := q404) rfl (fun K hK => ?_) ?_
    ·go_simp
     refine (eqVrow_any ra rn rc A.v.rows ra2 rn2 rc2 B.v.rows _ ((h.v.rows).below (gr_trans b02 vv)) ((h2.v.rows).below (gr_trans b02 vv))).mono ?_
     rintro e wt ⟨q, rfl, hq, hbt⟩
     obtain rfl : q = false := by cases hqq : q; rfl; exact absurd (hq.1 hqq) hno
     have vv := gr_trans vv hbt
     clear hq hbt
     go_wp2_with fail
     refine hK.out _ _ (HS.out _ vv) (fun hHeld => ?_)
     clear hK K
     try simp only [Act.put, lA, lB, lC]
     refine kK 34 q405 ?_
     refine kK 35 q406 ?_
     refine kN 36 q407 ?_
     refine kN 37 q408 ?_
     refine kN 38 q409 ?_
     refine kN 39 q410 ?_
     refine kN 40 q411 ?_
     refine kN 41 q412 ?_
     refine kN 42 q413 ?_
     refine kK 43 q414 ?_
     refine kK 44 q415 ?_
     refine kN 45 q416 ?_
     refine kN 46 q417 ?_
     refine kN 47 q418 ?_
     refine kN 48 q419 ?_
     refine kN 49 q420 ?_
     refine kK 50 q421 ?_
     refine kK 51 q422 ?_
     refine wpAnyH_done (by kernel_rfl) ?_ _
     have HB := hide (gr_trans b02 vv)
     clear HS vv hHeld
     go_wp2
     go_ret
     exact ⟨false, rfl, ⟨(fun e => by cases e), fun e => absurd e HNO.out⟩, HB.out⟩
    exact AllReadyH.nil
   exact AllReadyH.nil
  exact AllReadyH.nil
 by_cases e5 : A.v.own = B.v.own
 rotate_left
 ·have HNO : Hid (¬ A = B) := hide (fun e => e5 (by rw [e]))
  have hno := e5
  have hnb : (A.name.toList == B.name.toList) = true := by rw [e1]; simp
  refine wp_region_held_drew (S := (fun W => (W.cell? ⟨w.heap.size, 0, none⟩ = some (.int .i64 A.id) ∧ W.cell? ⟨w.heap.size, 1, none⟩ = some (.string A.name) ∧ W.cell? ⟨w.heap.size, 2, none⟩ = some (.slice a n c) ∧ W.cell? ⟨w.heap.size, 3, none⟩ = some (.slice fa fn fc) ∧ W.cell? ⟨w.heap.size, 4, none⟩ = some (.slice ra rn rc) ∧ W.cell? ⟨w.heap.size, 5, none⟩ = some (.slice oa on oc) ∧ W.cell? ⟨w.heap.size, 6, none⟩ = some (.int .i64 A.ticks) ∧ W.cell? ⟨w.heap.size, 7, none⟩ = some (.int .i64 A.parse) ∧ W.cell? ⟨w.heap.size, 8, none⟩ = some (.int .i64 A.word) ∧ W.cell? ⟨w.heap.size, 9, none⟩ = some (.int .i64 A.drops) ∧ W.cell? ⟨w.heap.size, 10, none⟩ = some (.int .i64 A.vers)) ∧ (W.cell? ⟨w1.heap.size, 0, none⟩ = some (.int .i64 B.id) ∧ W.cell? ⟨w1.heap.size, 1, none⟩ = some (.string B.name) ∧ W.cell? ⟨w1.heap.size, 2, none⟩ = some (.slice a2 n2 c2) ∧ W.cell? ⟨w1.heap.size, 3, none⟩ = some (.slice fa2 fn2 fc2) ∧ W.cell? ⟨w1.heap.size, 4, none⟩ = some (.slice ra2 rn2 rc2) ∧ W.cell? ⟨w1.heap.size, 5, none⟩ = some (.slice oa2 on2 oc2) ∧ W.cell? ⟨w1.heap.size, 6, none⟩ = some (.int .i64 B.ticks) ∧ W.cell? ⟨w1.heap.size, 7, none⟩ = some (.int .i64 B.parse) ∧ W.cell? ⟨w1.heap.size, 8, none⟩ = some (.int .i64 B.word) ∧ W.cell? ⟨w1.heap.size, 9, none⟩ = some (.int .i64 B.drops) ∧ W.cell? ⟨w1.heap.size, 10, none⟩ = some (.int .i64 B.vers)))) (by kernel_rfl) (HS.out _ vv) (fun hHeld => ?_)
  refine kK 0 q371 ?_
  refine kK 1 q372 ?_
  refine kK 2 q373 ?_
  refine kK 3 q374 ?_
  refine kV 4 q375 (.bool true) ?_
  refine kK 5 q376 ?_
  refine kK 6 q377 ?_
  refine kK 7 q378 ?_
  refine kK 8 q379 ?_
  refine kK 9 q380 ?_
  refine kV 10 q381 (.bool true) ?_
  refine kK 11 q382 ?_
  refine kK 12 q383 ?_
  refine kK 13 q384 ?_
  refine kK 14 q385 ?_
  refine kK 15 q386 ?_
  refine kK 16 q387 ?_
  refine tR [17] ?_
  refine AllReadyH.cons (o := q388) rfl (fun K hK => ?_) ?_
  ·go_simp
   refine (eqPt_any a n c A.ports a2 n2 c2 B.ports _ ((h.ports).below (gr_trans b02 vv)) ((h2.ports).below (gr_trans b02 vv))).mono ?_
   rintro e wt ⟨q, rfl, hq, hbt⟩
   obtain rfl : q = true := hq.2 e2
   have vv := gr_trans vv hbt
   clear hq hbt
   go_wp2_with fail
   refine hK.out _ _ (HS.out _ vv) (fun hHeld => ?_)
   clear hK K
   try simp only [Act.put, lA, lB, lC]
   refine kK 18 q389 ?_
   refine kK 19 q390 ?_
   refine kK 20 q391 ?_
   refine kK 21 q392 ?_
   refine kK 22 q393 ?_
   refine kK 23 q394 ?_
   refine tR [24] ?_
   refine AllReadyH.cons (o := q395) rfl (fun K hK => ?_) ?_
   ·go_simp
    refine (eqFent_any fa fn fc A.f fa2 fn2 fc2 B.f _ ((h.f).below (gr_trans b02 vv)) ((h2.f).below (gr_trans b02 vv))).mono ?_
    rintro e wt ⟨q, rfl, hq, hbt⟩
    obtain rfl : q = true := hq.2 e3
    have vv := gr_trans vv hbt
    clear hq hbt
    go_wp2_with fail
    refine hK.out _ _ (HS.out _ vv) (fun hHeld => ?_)
    clear hK K
    try simp only [Act.put, lA, lB, lC]
    refine kK 25 q396 ?_
    refine kK 26 q397 ?_
    refine kK 27 q398 ?_
    refine kK 28 q399 ?_
    refine kK 29 q400 ?_
    refine kK 30 q401 ?_
    refine kK 31 q402 ?_
    refine kK 32 q403 ?_
    refine tR [33] ?_
    refine AllReadyH.cons (o := q404) rfl (fun K hK => ?_) ?_
    ·go_simp
     refine (eqVrow_any ra rn rc A.v.rows ra2 rn2 rc2 B.v.rows _ ((h.v.rows).below (gr_trans b02 vv)) ((h2.v.rows).below (gr_trans b02 vv))).mono ?_
     rintro e wt ⟨q, rfl, hq, hbt⟩
     obtain rfl : q = true := hq.2 e4
     have vv := gr_trans vv hbt
     clear hq hbt
     go_wp2_with fail
     refine hK.out _ _ (HS.out _ vv) (fun hHeld => ?_)
     clear hK K
     try simp only [Act.put, lA, lB, lC]
     refine kK 34 q405 ?_
     refine kK 35 q406 ?_
     refine kK 36 q407 ?_
     refine kK 37 q408 ?_
     refine kK 38 q409 ?_
     refine kK 39 q410 ?_
     refine kK 40 q411 ?_
     refine kK 41 q412 ?_
     refine tR [42] ?_
     refine AllReadyH.cons (o := q413) rfl (fun K hK => ?_) ?_
     ·go_simp
      refine (equal_any oa on oc A.v.own oa2 on2 oc2 B.v.own _ (h.v.own.below (gr_trans b02 vv)) (h2.v.own.below (gr_trans b02 vv))).mono ?_
      rintro e wt ⟨rfl, m, rfl⟩
      rw [decide_eq_false hno]
      have vv := gr_drewN vv m
      go_wp2_with fail
      refine hK.out _ _ (HS.out _ vv) (fun hHeld => ?_)
      clear hK K
      try simp only [Act.put, lA, lB, lC]
      refine kK 43 q414 ?_
      refine kK 44 q415 ?_
      refine kN 45 q416 ?_
      refine kN 46 q417 ?_
      refine kN 47 q418 ?_
      refine kN 48 q419 ?_
      refine kN 49 q420 ?_
      refine kK 50 q421 ?_
      refine kK 51 q422 ?_
      refine wpAnyH_done (by kernel_rfl) ?_ _
      have HB := hide (gr_trans b02 vv)
      clear HS vv hHeld
      go_wp2
      go_ret
      exact ⟨false, rfl, ⟨(fun e => by cases e), fun e => absurd e HNO.out⟩, HB.out⟩
     exact AllReadyH.nil
    exact AllReadyH.nil
   exact AllReadyH.nil
  exact AllReadyH.nil
 have hnb : (A.name.toList == B.name.toList) = true := by rw [e1]; simp
 obtain ⟨q, hq⟩ : ∃ q, q = ((A.ticks == B.ticks) && ((A.parse == B.parse) && ((A.word == B.word) && ((A.drops == B.drops) && (A.vers == B.vers))))) := ⟨_, rfl⟩
 have h5 : ∀ W, (binOp .eql 83 (.agg #[.int .i64 A.ticks, .int .i64 A.parse, .int .i64 A.word, .int .i64 A.drops, .int .i64 A.vers]) (.agg #[.int .i64 B.ticks, .int .i64 B.parse, .int .i64 B.word, .int .i64 B.drops, .int .i64 B.vers])).run Tryz.prog W = .ok (.bool q) W := fun W => by rw [five_eql, hq]
 have hgd : Tryz.prog.eqGuardType Tryz.prog.depth 83 = false := by kernel_rfl
 have HQ : Hid (q = true ↔ A = B) := hide (by rw [hq]; exact same_end e0 e1 e2 e3 e4 e5)
 clear hq
 refine wp_region_held_drew (S := (fun W => (W.cell? ⟨w.heap.size, 0, none⟩ = some (.int .i64 A.id) ∧ W.cell? ⟨w.heap.size, 1, none⟩ = some (.string A.name) ∧ W.cell? ⟨w.heap.size, 2, none⟩ = some (.slice a n c) ∧ W.cell? ⟨w.heap.size, 3, none⟩ = some (.slice fa fn fc) ∧ W.cell? ⟨w.heap.size, 4, none⟩ = some (.slice ra rn rc) ∧ W.cell? ⟨w.heap.size, 5, none⟩ = some (.slice oa on oc) ∧ W.cell? ⟨w.heap.size, 6, none⟩ = some (.int .i64 A.ticks) ∧ W.cell? ⟨w.heap.size, 7, none⟩ = some (.int .i64 A.parse) ∧ W.cell? ⟨w.heap.size, 8, none⟩ = some (.int .i64 A.word) ∧ W.cell? ⟨w.heap.size, 9, none⟩ = some (.int .i64 A.drops) ∧ W.cell? ⟨w.heap.size, 10, none⟩ = some (.int .i64 A.vers)) ∧ (W.cell? ⟨w1.heap.size, 0, none⟩ = some (.int .i64 B.id) ∧ W.cell? ⟨w1.heap.size, 1, none⟩ = some (.string B.name) ∧ W.cell? ⟨w1.heap.size, 2, none⟩ = some (.slice a2 n2 c2) ∧ W.cell? ⟨w1.heap.size, 3, none⟩ = some (.slice fa2 fn2 fc2) ∧ W.cell? ⟨w1.heap.size, 4, none⟩ = some (.slice ra2 rn2 rc2) ∧ W.cell? ⟨w1.heap.size, 5, none⟩ = some (.slice oa2 on2 oc2) ∧ W.cell? ⟨w1.heap.size, 6, none⟩ = some (.int .i64 B.ticks) ∧ W.cell? ⟨w1.heap.size, 7, none⟩ = some (.int .i64 B.parse) ∧ W.cell? ⟨w1.heap.size, 8, none⟩ = some (.int .i64 B.word) ∧ W.cell? ⟨w1.heap.size, 9, none⟩ = some (.int .i64 B.drops) ∧ W.cell? ⟨w1.heap.size, 10, none⟩ = some (.int .i64 B.vers)))) (by kernel_rfl) (HS.out _ vv) (fun hHeld => ?_)
 refine kK 0 q371 ?_
 refine kK 1 q372 ?_
 refine kK 2 q373 ?_
 refine kK 3 q374 ?_
 refine kV 4 q375 (.bool true) ?_
 refine kK 5 q376 ?_
 refine kK 6 q377 ?_
 refine kK 7 q378 ?_
 refine kK 8 q379 ?_
 refine kK 9 q380 ?_
 refine kV 10 q381 (.bool true) ?_
 refine kK 11 q382 ?_
 refine kK 12 q383 ?_
 refine kK 13 q384 ?_
 refine kK 14 q385 ?_
 refine kK 15 q386 ?_
 refine kK 16 q387 ?_
 refine tR [17] ?_
 refine AllReadyH.cons (o := q388) rfl (fun K hK => ?_) ?_
 ·go_simp
  refine (eqPt_any a n c A.ports a2 n2 c2 B.ports _ ((h.ports).below (gr_trans b02 vv)) ((h2.ports).below (gr_trans b02 vv))).mono ?_
  rintro e wt ⟨q, rfl, hq, hbt⟩
  obtain rfl : q = true := hq.2 e2
  have vv := gr_trans vv hbt
  clear hq hbt
  go_wp2_with fail
  refine hK.out _ _ (HS.out _ vv) (fun hHeld => ?_)
  clear hK K
  try simp only [Act.put, lA, lB, lC]
  refine kK 18 q389 ?_
  refine kK 19 q390 ?_
  refine kK 20 q391 ?_
  refine kK 21 q392 ?_
  refine kK 22 q393 ?_
  refine kK 23 q394 ?_
  refine tR [24] ?_
  refine AllReadyH.cons (o := q395) rfl (fun K hK => ?_) ?_
  ·go_simp
   refine (eqFent_any fa fn fc A.f fa2 fn2 fc2 B.f _ ((h.f).below (gr_trans b02 vv)) ((h2.f).below (gr_trans b02 vv))).mono ?_
   rintro e wt ⟨q, rfl, hq, hbt⟩
   obtain rfl : q = true := hq.2 e3
   have vv := gr_trans vv hbt
   clear hq hbt
   go_wp2_with fail
   refine hK.out _ _ (HS.out _ vv) (fun hHeld => ?_)
   clear hK K
   try simp only [Act.put, lA, lB, lC]
   refine kK 25 q396 ?_
   refine kK 26 q397 ?_
   refine kK 27 q398 ?_
   refine kK 28 q399 ?_
   refine kK 29 q400 ?_
   refine kK 30 q401 ?_
   refine kK 31 q402 ?_
   refine kK 32 q403 ?_
   refine tR [33] ?_
   refine AllReadyH.cons (o := q404) rfl (fun K hK => ?_) ?_
   ·go_simp
    refine (eqVrow_any ra rn rc A.v.rows ra2 rn2 rc2 B.v.rows _ ((h.v.rows).below (gr_trans b02 vv)) ((h2.v.rows).below (gr_trans b02 vv))).mono ?_
    rintro e wt ⟨q, rfl, hq, hbt⟩
    obtain rfl : q = true := hq.2 e4
    have vv := gr_trans vv hbt
    clear hq hbt
    go_wp2_with fail
    refine hK.out _ _ (HS.out _ vv) (fun hHeld => ?_)
    clear hK K
    try simp only [Act.put, lA, lB, lC]
    refine kK 34 q405 ?_
    refine kK 35 q406 ?_
    refine kK 36 q407 ?_
    refine kK 37 q408 ?_
    refine kK 38 q409 ?_
    refine kK 39 q410 ?_
    refine kK 40 q411 ?_
    refine kK 41 q412 ?_
    refine tR [42] ?_
    refine AllReadyH.cons (o := q413) rfl (fun K hK => ?_) ?_
    ·go_simp
     refine (equal_any oa on oc A.v.own oa2 on2 oc2 B.v.own _ (h.v.own.below (gr_trans b02 vv)) (h2.v.own.below (gr_trans b02 vv))).mono ?_
     rintro e wt ⟨rfl, m, rfl⟩
     rw [decide_eq_true e5]
     have vv := gr_drewN vv m
     go_wp2_with fail
     refine hK.out _ _ (HS.out _ vv) (fun hHeld => ?_)
     clear hK K
     try simp only [Act.put, lA, lB, lC]
     refine kK 43 q414 ?_
     refine kK 44 q415 ?_
     refine kK 45 q416 ?_
     refine kK 47 q418 ?_
     refine tR [46] ?_
     refine AllReadyH.cons (o := q417) rfl (fun K hK => ?_) ?_
     ·go_simp
      refine (implCountsOf_any _ _ _ _ _ _ A.ticks A.parse A.word A.drops A.vers _).mono ?_
      rintro e wt ⟨rfl, hbt⟩
      have vv := gr_trans vv hbt
      clear hbt
      go_wp2_with fail
      refine hK.out _ _ (HS.out _ vv) (fun hHeld => ?_)
      clear hK K
      try simp only [Act.put, lA, lB, lC]
      refine tR [48] ?_
      refine AllReadyH.cons (o := q419) rfl (fun K hK => ?_) ?_
      ·go_simp
       refine (implCountsOf_any _ _ _ _ _ _ B.ticks B.parse B.word B.drops B.vers _).mono ?_
       rintro e wt ⟨rfl, hbt⟩
       have vv := gr_trans vv hbt
       clear hbt
       go_wp2_with fail
       refine hK.out _ _ (HS.out _ vv) (fun hHeld => ?_)
       clear hK K
       try simp only [Act.put, lA, lB, lC]
       refine kV 49 q420 (.bool q) ?_
       refine kK 50 q421 ?_
       refine kK 51 q422 ?_
       refine wpAnyH_done (by kernel_rfl) ?_ _
       have HB := hide (gr_trans b02 vv)
       clear HS vv hHeld h5 hgd
       go_wp2
       go_ret
       exact ⟨q, rfl, HQ.out, HB.out⟩
      exact AllReadyH.nil
     exact AllReadyH.nil
    exact AllReadyH.nil
   exact AllReadyH.nil
  exact AllReadyH.nil
 exact AllReadyH.nil

end Go.Proofs.YtfknffdlmcckkaaGreat
