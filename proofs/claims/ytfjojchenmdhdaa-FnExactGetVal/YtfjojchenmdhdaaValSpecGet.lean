/-
  A value out of its bytes, by the contract of the specification.
-/
import Derived.Test.YtfjojchenmdhdaaValGet
namespace Go.Proofs.Ytfjojchenmdhdaa
open Go.RowKit

theorem getTlv_none {z : List Int} {t k nx : Int} {body : List Int} (h : getTlv z t = (k, body, nx, false)) : k = 0 ∧ body = [] ∧ nx = 0 := by
  unfold getTlv at h
  split at h
  · cases h; exact ⟨rfl, rfl, rfl⟩
  · split at h
    · cases h
    · cases h; exact ⟨rfl, rfl, rfl⟩

theorem set_other {w : World} {g i j : Nat} {u : Value} {o : Obj} (h : w.heap[i]? = some o) (hne : g ≠ i) : (w.setCell ⟨g, j, none⟩ u).heap[i]? = some o := by
  rw [Below.heap_setCell _ _ _ _ (by intro e; exact hne e.symm)]; exact h
theorem set_one {w : World} {g : Nat} {u c0 c1 c2 c3 : Value} {t : TypeId} (h : w.heap[g]? = some (.cells #[c0, c1, c2, c3] t)) : (w.setCell ⟨g, 1, none⟩ u).heap[g]? = some (.cells #[c0, u, c2, c3] t) := by
  simp [World.setCell, Array.getElem?_modify, h]
theorem set_three {w : World} {g : Nat} {u c0 c1 c2 c3 : Value} {t : TypeId} (h : w.heap[g]? = some (.cells #[c0, c1, c2, c3] t)) : (w.setCell ⟨g, 3, none⟩ u).heap[g]? = some (.cells #[c0, c1, c2, u] t) := by
  simp [World.setCell, Array.getElem?_modify, h]

theorem int_ok {body : List Int} (hb : Byt body) {n : Int} (h : getInt body = (n, true)) : okV 2 n ⟨#[]⟩ [] = true := by
  have hb : -2147483648 ≤ n ∧ n ≤ 2147483647 := by
    unfold getInt at h
    split at h
    · cases h
    · split at h
      · cases h; exact val_bd hb _ (by omega)
      · cases h
  have hc : clip n = n := by unfold clip; rw [if_neg (by omega), if_neg (by omega)]
  simp [okV, hc]
theorem text_ok {body : List Int} : okV 4 0 (byB body) [] = decide (body.length ≤ 20) := by
  simp [okV, byB_size]
  omega
theorem oid_ok {o : List Int} (h : oidOk o = true) : okV 6 0 ⟨#[]⟩ o = true := by
  simp [okV, h]
theorem bare_ok {k : Int} (k2 : ¬ k = 2) (k4 : ¬ k = 4) (k6 : ¬ k = 6) : okV k 0 ⟨#[]⟩ [] = (bareOf k).isSome := by
  unfold okV bareOf
  rw [if_neg k2, if_neg k4, if_neg k6]
  by_cases h5 : k = 5
  · simp [h5]
  by_cases h128 : k = 128
  · simp [h128]
  by_cases h130 : k = 130
  · simp [h130]
  simp [h5, h128, h130]

set_option maxRecDepth 100000 in
set_option maxHeartbeats 1000000 in
theorem specGetVal_notlv (a1 : Option Addr) (l1 c1 : Nat) (z1 : List Int) (t : Int) (nx : Int) (body : List Int) (hT : getTlv z1 t = (0, body, nx, false)) (w : World) (h1 : Row w a1 l1 c1 z1) (hs : l1 ≤ 1048576) :
    Calls Try.prog 13 #[.slice a1 l1 c1, .int .i64 t] w fun e w' => ∃ ao cap, e = .returned (.tuple #[.agg #[.int .i64 0, .int .i64 0, .string ⟨#[]⟩, .slice ao ([] : List Int).length cap], .int .i64 0, .bool false]) ∧
      w'.ownsRow w.heap.size 3 1 (.slice ao ([] : List Int).length cap) ([] : List Int).length (cI ([] : List Int)) ∧ IRow w' ao ([] : List Int).length cap ([] : List Int) ∧ Below w.heap.size w w' := by
  have hbl : body.length ≤ 1048576 := by have := getTlv_length z1 t; rw [hT] at this; have := h1.size; simp at *; omega
  have HT := hide hT
  clear hT
  go_enter Try.func13, Try.ntmps13
  go_wp2_with fail
  refine (specGet_made _ _ _ z1 t 0 nx false body HT.out _ (h1.below (below_one _ _)) (by omega)).mono ?_
  rintro e w1 ⟨ao1, cp1, rfl, -, r1, hb1⟩
  have k1 := kept_block (block_last w _) hb1
  have b1 : Below w.heap.size w w1 := (below_one w _).trans (hb1.mono (below_one w _).size)
  have m1 : w.heap.size + 1 ≤ w1.heap.size := by have := hb1.size; simpa using this
  clear hb1 HT
  clear r1
  obtain ⟨⟨x0, x1, x2, x3⟩, f0, f1, f2, f3⟩ := cells4 (kept_block k1 (below_one w1 (.cells #[.int .i64 0, .int .i64 0, .string ⟨#[]⟩, .slice none 0 0] 26)))
  have b2 := b1.trans ((below_one w1 (.cells #[.int .i64 0, .int .i64 0, .string ⟨#[]⟩, .slice none 0 0] 26)).mono b1.size)
  clear k1 b1
  go_wp2
  exact bodyPost_ret (v := .tuple #[.agg #[.int .i64 0, .int .i64 0, .string ⟨#[]⟩, .slice none 0 0], .int .i64 0, .bool false]) (by simp [results, Try.results13, go_sem, *]) rfl ⟨none, 0, rfl, World.ownsRow_nil _ _ _ _, irow_nil _, below_set4 b2 (Nat.le_refl _) _ _ _ _⟩

set_option maxRecDepth 100000 in
set_option maxHeartbeats 1000000 in
theorem specGetVal_int (a1 : Option Addr) (l1 c1 : Nat) (z1 : List Int) (t : Int) (n : Int) (nx : Int) (body : List Int) (hT : getTlv z1 t = (2, body, nx, true)) (w : World) (h1 : Row w a1 l1 c1 z1) (hs : l1 ≤ 1048576) (hN : getInt body = (n, true)) :
    Calls Try.prog 13 #[.slice a1 l1 c1, .int .i64 t] w fun e w' => ∃ ao cap, e = .returned (.tuple #[.agg #[.int .i64 2, .int .i64 n, .string ⟨#[]⟩, .slice ao ([] : List Int).length cap], .int .i64 nx, .bool true]) ∧
      w'.ownsRow w.heap.size 3 1 (.slice ao ([] : List Int).length cap) ([] : List Int).length (cI ([] : List Int)) ∧ IRow w' ao ([] : List Int).length cap ([] : List Int) ∧ Below w.heap.size w w' := by
  have hbl : body.length ≤ 1048576 := by have := getTlv_length z1 t; rw [hT] at this; have := h1.size; simp at *; omega
  have hby : Byt body := by have := getTlv_byte z1 t h1.byte; rw [hT] at this; exact this
  have HOK := hide (int_ok hby hN)
  have HN := hide hN
  clear hN hby
  have HT := hide hT
  clear hT
  go_enter Try.func13, Try.ntmps13
  go_wp2_with fail
  refine (specGet_made _ _ _ z1 t 2 nx true body HT.out _ (h1.below (below_one _ _)) (by omega)).mono ?_
  rintro e w1 ⟨ao1, cp1, rfl, -, r1, hb1⟩
  have k1 := kept_block (block_last w _) hb1
  have b1 : Below w.heap.size w w1 := (below_one w _).trans (hb1.mono (below_one w _).size)
  have m1 : w.heap.size + 1 ≤ w1.heap.size := by have := hb1.size; simpa using this
  clear hb1 HT
  have b2 := b1.trans ((below_one w1 (.cells #[.int .i64 2, .int .i64 0, .string ⟨#[]⟩, .slice none 0 0] 26)).mono b1.size)
  have kz := kept_block k1 (below_one w1 (.cells #[.int .i64 2, .int .i64 0, .string ⟨#[]⟩, .slice none 0 0] 26))
  go_wp2_with fail
  refine (specGetInt_any _ _ _ body _ (r1.below (below_one _ _)) (by omega)).mono ?_
  rintro e w2 ⟨rfl, hb2⟩
  rw [HN.out]
  have kv := kept_block (block_last w1 _) hb2
  have kz := kept_block kz hb2
  have b3 := b2.trans (hb2.mono b2.size)
  obtain ⟨⟨x0, x1, x2, x3⟩, f0, f1, f2, f3⟩ := cells4 kv
  have kv := set_one (u := .int .i64 n) kv
  have kz := set_other (g := w1.heap.size) (j := 1) (u := .int .i64 n) kz (by omega)
  have b3 := below_set b3 (g := w1.heap.size) (by omega) 1 (.int .i64 n)
  clear hb2 b2 k1 b1 r1
  have KV := hide kv
  have KZ := hide kz
  clear kv kz
  go_wp2_with fail
  generalize w2.setCell ⟨w1.heap.size, 1, none⟩ (.int .i64 n) = W2 at *
  refine (specValOk_any 2 n ⟨#[]⟩ none 0 0 [] _ (irow_nil _)).mono ?_
  rintro e w3 ⟨rfl, hb3⟩
  rw [HOK.out]
  clear x0 x1 x2 x3 f0 f1 f2 f3
  obtain ⟨⟨x0, x1, x2, x3⟩, -⟩ := cells4 (kept_block KV.out hb3)
  obtain ⟨⟨y0, y1, y2, y3⟩, f0, f1, f2, f3⟩ := cells4 (kept_block KZ.out hb3)
  have b4 := b3.trans (hb3.mono b3.size)
  clear hb3 b3 KV KZ
  go_wp2
  exact bodyPost_ret (v := .tuple #[.agg #[.int .i64 2, .int .i64 n, .string ⟨#[]⟩, .slice none 0 0], .int .i64 nx, .bool true]) (by simp [results, Try.results13, go_sem, *]) rfl ⟨none, 0, rfl, World.ownsRow_nil _ _ _ _, irow_nil _, below_set4 b4 (Nat.le_refl _) _ _ _ _⟩

set_option maxRecDepth 100000 in
set_option maxHeartbeats 1000000 in
theorem specGetVal_noint (a1 : Option Addr) (l1 c1 : Nat) (z1 : List Int) (t : Int) (n : Int) (nx : Int) (body : List Int) (hT : getTlv z1 t = (2, body, nx, true)) (w : World) (h1 : Row w a1 l1 c1 z1) (hs : l1 ≤ 1048576) (hN : getInt body = (n, false)) :
    Calls Try.prog 13 #[.slice a1 l1 c1, .int .i64 t] w fun e w' => ∃ ao cap, e = .returned (.tuple #[.agg #[.int .i64 0, .int .i64 0, .string ⟨#[]⟩, .slice ao ([] : List Int).length cap], .int .i64 0, .bool false]) ∧
      w'.ownsRow w.heap.size 3 1 (.slice ao ([] : List Int).length cap) ([] : List Int).length (cI ([] : List Int)) ∧ IRow w' ao ([] : List Int).length cap ([] : List Int) ∧ Below w.heap.size w w' := by
  have hbl : body.length ≤ 1048576 := by have := getTlv_length z1 t; rw [hT] at this; have := h1.size; simp at *; omega
  have HN := hide hN
  clear hN
  have HT := hide hT
  clear hT
  go_enter Try.func13, Try.ntmps13
  go_wp2_with fail
  refine (specGet_made _ _ _ z1 t 2 nx true body HT.out _ (h1.below (below_one _ _)) (by omega)).mono ?_
  rintro e w1 ⟨ao1, cp1, rfl, -, r1, hb1⟩
  have k1 := kept_block (block_last w _) hb1
  have b1 : Below w.heap.size w w1 := (below_one w _).trans (hb1.mono (below_one w _).size)
  have m1 : w.heap.size + 1 ≤ w1.heap.size := by have := hb1.size; simpa using this
  clear hb1 HT
  have b2 := b1.trans ((below_one w1 (.cells #[.int .i64 2, .int .i64 0, .string ⟨#[]⟩, .slice none 0 0] 26)).mono b1.size)
  have kz := kept_block k1 (below_one w1 (.cells #[.int .i64 2, .int .i64 0, .string ⟨#[]⟩, .slice none 0 0] 26))
  go_wp2_with fail
  refine (specGetInt_any _ _ _ body _ (r1.below (below_one _ _)) (by omega)).mono ?_
  rintro e w2 ⟨rfl, hb2⟩
  rw [HN.out]
  have kv := kept_block (block_last w1 _) hb2
  have kz := kept_block kz hb2
  have b3 := b2.trans (hb2.mono b2.size)
  obtain ⟨⟨x0, x1, x2, x3⟩, f0, f1, f2, f3⟩ := cells4 kv
  have kv := set_one (u := .int .i64 n) kv
  have kz := set_other (g := w1.heap.size) (j := 1) (u := .int .i64 n) kz (by omega)
  have b3 := below_set b3 (g := w1.heap.size) (by omega) 1 (.int .i64 n)
  clear hb2 b2 k1 b1 r1
  obtain ⟨⟨y0, y1, y2, y3⟩, d0, d1, d2, d3⟩ := cells4 kz
  clear kz kv
  go_wp2
  exact bodyPost_ret (v := .tuple #[.agg #[.int .i64 0, .int .i64 0, .string ⟨#[]⟩, .slice none 0 0], .int .i64 0, .bool false]) (by simp [results, Try.results13, go_sem, *]) rfl ⟨none, 0, rfl, World.ownsRow_nil _ _ _ _, irow_nil _, below_set4 b3 (Nat.le_refl _) _ _ _ _⟩

set_option maxRecDepth 100000 in
set_option maxHeartbeats 1000000 in
theorem specGetVal_text (a1 : Option Addr) (l1 c1 : Nat) (z1 : List Int) (t : Int) (nx : Int) (body : List Int) (hT : getTlv z1 t = (4, body, nx, true)) (w : World) (h1 : Row w a1 l1 c1 z1) (hs : l1 ≤ 1048576) (hL : body.length ≤ 20) :
    Calls Try.prog 13 #[.slice a1 l1 c1, .int .i64 t] w fun e w' => ∃ ao cap, e = .returned (.tuple #[.agg #[.int .i64 4, .int .i64 0, .string (byB body), .slice ao ([] : List Int).length cap], .int .i64 nx, .bool true]) ∧
      w'.ownsRow w.heap.size 3 1 (.slice ao ([] : List Int).length cap) ([] : List Int).length (cI ([] : List Int)) ∧ IRow w' ao ([] : List Int).length cap ([] : List Int) ∧ Below w.heap.size w w' := by
  have hbl : body.length ≤ 1048576 := by have := getTlv_length z1 t; rw [hT] at this; have := h1.size; simp at *; omega
  have hok : okV 4 0 (byB body) [] = true := by rw [text_ok]; exact decide_eq_true hL
  generalize hSB : byB body = S at *
  have HS := hide hSB
  have HOK := hide hok
  clear hSB hok
  have HT := hide hT
  clear hT
  go_enter Try.func13, Try.ntmps13
  go_wp2_with fail
  refine (specGet_made _ _ _ z1 t 4 nx true body HT.out _ (h1.below (below_one _ _)) (by omega)).mono ?_
  rintro e w1 ⟨ao1, cp1, rfl, -, r1, hb1⟩
  have k1 := kept_block (block_last w _) hb1
  have b1 : Below w.heap.size w w1 := (below_one w _).trans (hb1.mono (below_one w _).size)
  have m1 : w.heap.size + 1 ≤ w1.heap.size := by have := hb1.size; simpa using this
  clear hb1 HT
  have hcv := conv_row 9 (w1.alloc (.cells #[.int .i64 4, .int .i64 0, .string ⟨#[]⟩, .slice none 0 0] 26)) ao1 body.length cp1 body (r1.below (below_one _ _)) Try.underlying9
  rw [HS.out] at hcv
  have kv := block_last w1 (.cells #[.int .i64 4, .int .i64 0, .string S, .slice none 0 0] 26)
  have kz := kept_block k1 (below_one w1 (.cells #[.int .i64 4, .int .i64 0, .string S, .slice none 0 0] 26))
  have b2 := b1.trans ((below_one w1 (.cells #[.int .i64 4, .int .i64 0, .string S, .slice none 0 0] 26)).mono b1.size)
  have KV := hide kv
  have KZ := hide kz
  clear kv kz k1 b1 r1
  go_wp2_with fail
  generalize w1.alloc (.cells #[.int .i64 4, .int .i64 0, .string S, .slice none 0 0] 26) = W2 at *
  refine (specValOk_any 4 0 S none 0 0 [] _ (irow_nil _)).mono ?_
  rintro e w3 ⟨rfl, hb3⟩
  rw [HOK.out]
  obtain ⟨⟨x0, x1, x2, x3⟩, -⟩ := cells4 (kept_block KV.out hb3)
  obtain ⟨⟨y0, y1, y2, y3⟩, f0, f1, f2, f3⟩ := cells4 (kept_block KZ.out hb3)
  have b4 := b2.trans (hb3.mono b2.size)
  clear hb3 b2 KV KZ
  go_wp2
  exact bodyPost_ret (v := .tuple #[.agg #[.int .i64 4, .int .i64 0, .string S, .slice none 0 0], .int .i64 nx, .bool true]) (by simp [results, Try.results13, go_sem, *]) rfl ⟨none, 0, rfl, World.ownsRow_nil _ _ _ _, irow_nil _, below_set4 b4 (Nat.le_refl _) _ _ _ _⟩

set_option maxRecDepth 100000 in
set_option maxHeartbeats 1000000 in
theorem specGetVal_notext (a1 : Option Addr) (l1 c1 : Nat) (z1 : List Int) (t : Int) (nx : Int) (body : List Int) (hT : getTlv z1 t = (4, body, nx, true)) (w : World) (h1 : Row w a1 l1 c1 z1) (hs : l1 ≤ 1048576) (hL : ¬ body.length ≤ 20) :
    Calls Try.prog 13 #[.slice a1 l1 c1, .int .i64 t] w fun e w' => ∃ ao cap, e = .returned (.tuple #[.agg #[.int .i64 0, .int .i64 0, .string ⟨#[]⟩, .slice ao ([] : List Int).length cap], .int .i64 0, .bool false]) ∧
      w'.ownsRow w.heap.size 3 1 (.slice ao ([] : List Int).length cap) ([] : List Int).length (cI ([] : List Int)) ∧ IRow w' ao ([] : List Int).length cap ([] : List Int) ∧ Below w.heap.size w w' := by
  have hbl : body.length ≤ 1048576 := by have := getTlv_length z1 t; rw [hT] at this; have := h1.size; simp at *; omega
  have hok : okV 4 0 (byB body) [] = false := by rw [text_ok]; exact decide_eq_false hL
  generalize hSB : byB body = S at *
  have HS := hide hSB
  have HOK := hide hok
  clear hSB hok
  have HT := hide hT
  clear hT
  go_enter Try.func13, Try.ntmps13
  go_wp2_with fail
  refine (specGet_made _ _ _ z1 t 4 nx true body HT.out _ (h1.below (below_one _ _)) (by omega)).mono ?_
  rintro e w1 ⟨ao1, cp1, rfl, -, r1, hb1⟩
  have k1 := kept_block (block_last w _) hb1
  have b1 : Below w.heap.size w w1 := (below_one w _).trans (hb1.mono (below_one w _).size)
  have m1 : w.heap.size + 1 ≤ w1.heap.size := by have := hb1.size; simpa using this
  clear hb1 HT
  have hcv := conv_row 9 (w1.alloc (.cells #[.int .i64 4, .int .i64 0, .string ⟨#[]⟩, .slice none 0 0] 26)) ao1 body.length cp1 body (r1.below (below_one _ _)) Try.underlying9
  rw [HS.out] at hcv
  have kv := block_last w1 (.cells #[.int .i64 4, .int .i64 0, .string S, .slice none 0 0] 26)
  have kz := kept_block k1 (below_one w1 (.cells #[.int .i64 4, .int .i64 0, .string S, .slice none 0 0] 26))
  have b2 := b1.trans ((below_one w1 (.cells #[.int .i64 4, .int .i64 0, .string S, .slice none 0 0] 26)).mono b1.size)
  have KV := hide kv
  have KZ := hide kz
  clear kv kz k1 b1 r1
  go_wp2_with fail
  generalize w1.alloc (.cells #[.int .i64 4, .int .i64 0, .string S, .slice none 0 0] 26) = W2 at *
  refine (specValOk_any 4 0 S none 0 0 [] _ (irow_nil _)).mono ?_
  rintro e w3 ⟨rfl, hb3⟩
  rw [HOK.out]
  obtain ⟨⟨x0, x1, x2, x3⟩, -⟩ := cells4 (kept_block KV.out hb3)
  obtain ⟨⟨y0, y1, y2, y3⟩, f0, f1, f2, f3⟩ := cells4 (kept_block KZ.out hb3)
  have b4 := b2.trans (hb3.mono b2.size)
  clear hb3 b2 KV KZ
  go_wp2
  exact bodyPost_ret (v := .tuple #[.agg #[.int .i64 0, .int .i64 0, .string ⟨#[]⟩, .slice none 0 0], .int .i64 0, .bool false]) (by simp [results, Try.results13, go_sem, *]) rfl ⟨none, 0, rfl, World.ownsRow_nil _ _ _ _, irow_nil _, below_set4 b4 (Nat.le_refl _) _ _ _ _⟩

set_option maxRecDepth 100000 in
set_option maxHeartbeats 1000000 in
theorem specGetVal_oid (a1 : Option Addr) (l1 c1 : Nat) (z1 : List Int) (t : Int) (O : List Int) (nx : Int) (body : List Int) (hT : getTlv z1 t = (6, body, nx, true)) (w : World) (h1 : Row w a1 l1 c1 z1) (hs : l1 ≤ 1048576) (hO : getO body = some O) :
    Calls Try.prog 13 #[.slice a1 l1 c1, .int .i64 t] w fun e w' => ∃ ao cap, e = .returned (.tuple #[.agg #[.int .i64 6, .int .i64 0, .string ⟨#[]⟩, .slice ao O.length cap], .int .i64 nx, .bool true]) ∧
      w'.ownsRow w.heap.size 3 1 (.slice ao O.length cap) O.length (cI O) ∧ IRow w' ao O.length cap O ∧ Below w.heap.size w w' := by
  have hbl : body.length ≤ 1048576 := by have := getTlv_length z1 t; rw [hT] at this; have := h1.size; simp at *; omega
  have HOK := hide (oid_ok (getO_is hO).1)
  have HO := hide hO
  clear hO
  have HT := hide hT
  clear hT
  go_enter Try.func13, Try.ntmps13
  go_wp2_with fail
  refine (specGet_made _ _ _ z1 t 6 nx true body HT.out _ (h1.below (below_one _ _)) (by omega)).mono ?_
  rintro e w1 ⟨ao1, cp1, rfl, -, r1, hb1⟩
  have k1 := kept_block (block_last w _) hb1
  have b1 : Below w.heap.size w w1 := (below_one w _).trans (hb1.mono (below_one w _).size)
  have m1 : w.heap.size + 1 ≤ w1.heap.size := by have := hb1.size; simpa using this
  clear hb1 HT
  have b2 := b1.trans ((below_one w1 (.cells #[.int .i64 6, .int .i64 0, .string ⟨#[]⟩, .slice none 0 0] 26)).mono b1.size)
  have kz := kept_block k1 (below_one w1 (.cells #[.int .i64 6, .int .i64 0, .string ⟨#[]⟩, .slice none 0 0] 26))
  go_wp2_with fail
  refine (specGet_row _ _ _ body O true (by rw [HO.out]; rfl) (by rw [HO.out]; rfl) _ (r1.below (below_one _ _)) (by omega)).mono ?_
  rintro e w2 ⟨ao2, cp2, rfl, ho2, r2, hb2⟩
  have kv := kept_block (block_last w1 _) hb2
  have kz := kept_block kz hb2
  have b3 := b2.trans (hb2.mono b2.size)
  have m2 : w1.heap.size + 1 ≤ w2.heap.size := by have := hb2.size; simpa using this
  obtain ⟨⟨x0, x1, x2, x3⟩, f0, f1, f2, f3⟩ := cells4 kv
  have kv := set_three (u := .slice ao2 O.length cp2) kv
  have kz := set_other (g := w1.heap.size) (j := 3) (u := .slice ao2 O.length cp2) kz (by omega)
  have b3 := below_set b3 (g := w1.heap.size) (by omega) 3 (.slice ao2 O.length cp2)
  have o3 := own_set (own_lt ho2 (base' := w1.heap.size + 1) (by simp)) (g := w1.heap.size) (j := 3) (u := .slice ao2 O.length cp2) (by omega)
  have hbo := r2.byte
  clear hb2 b2 k1 b1 r1 ho2 r2
  have KV := hide kv
  have KZ := hide kz
  have HO3 := hide o3
  clear kv kz o3
  go_wp2_with fail
  generalize w2.setCell ⟨w1.heap.size, 3, none⟩ (.slice ao2 O.length cp2) = W2 at *
  refine (specValOk_any 6 0 ⟨#[]⟩ ao2 O.length cp2 O _ (irow_own HO3.out hbo)).mono ?_
  rintro e w3 ⟨rfl, hb3⟩
  rw [HOK.out]
  clear x0 x1 x2 x3 f0 f1 f2 f3
  obtain ⟨⟨x0, x1, x2, x3⟩, -⟩ := cells4 (kept_block KV.out hb3)
  obtain ⟨⟨y0, y1, y2, y3⟩, f0, f1, f2, f3⟩ := cells4 (kept_block KZ.out hb3)
  have b4 := b3.trans (hb3.mono b3.size)
  have HO4 := hide (own_lt (own_below HO3.out hb3) (base' := w.heap.size + 1) (by omega))
  clear hb3 b3 KV KZ HO3
  go_wp2
  have o5 := own_set4 HO4.out (g := w.heap.size) (by omega) (.int .i64 6) (.int .i64 0) (.string ⟨#[]⟩) (.slice ao2 O.length cp2)
  exact bodyPost_ret (v := .tuple #[.agg #[.int .i64 6, .int .i64 0, .string ⟨#[]⟩, .slice ao2 O.length cp2], .int .i64 nx, .bool true]) (by simp [results, Try.results13, go_sem, *]) rfl ⟨ao2, cp2, rfl, own_lt o5 (by omega), irow_own o5 hbo, below_set4 b4 (Nat.le_refl _) _ _ _ _⟩

set_option maxRecDepth 100000 in
set_option maxHeartbeats 1000000 in
theorem specGetVal_nooid (a1 : Option Addr) (l1 c1 : Nat) (z1 : List Int) (t : Int) (nx : Int) (body : List Int) (hT : getTlv z1 t = (6, body, nx, true)) (w : World) (h1 : Row w a1 l1 c1 z1) (hs : l1 ≤ 1048576) (hO : getO body = none) :
    Calls Try.prog 13 #[.slice a1 l1 c1, .int .i64 t] w fun e w' => ∃ ao cap, e = .returned (.tuple #[.agg #[.int .i64 0, .int .i64 0, .string ⟨#[]⟩, .slice ao ([] : List Int).length cap], .int .i64 0, .bool false]) ∧
      w'.ownsRow w.heap.size 3 1 (.slice ao ([] : List Int).length cap) ([] : List Int).length (cI ([] : List Int)) ∧ IRow w' ao ([] : List Int).length cap ([] : List Int) ∧ Below w.heap.size w w' := by
  have hbl : body.length ≤ 1048576 := by have := getTlv_length z1 t; rw [hT] at this; have := h1.size; simp at *; omega
  have HO := hide hO
  clear hO
  have HT := hide hT
  clear hT
  go_enter Try.func13, Try.ntmps13
  go_wp2_with fail
  refine (specGet_made _ _ _ z1 t 6 nx true body HT.out _ (h1.below (below_one _ _)) (by omega)).mono ?_
  rintro e w1 ⟨ao1, cp1, rfl, -, r1, hb1⟩
  have k1 := kept_block (block_last w _) hb1
  have b1 : Below w.heap.size w w1 := (below_one w _).trans (hb1.mono (below_one w _).size)
  have m1 : w.heap.size + 1 ≤ w1.heap.size := by have := hb1.size; simpa using this
  clear hb1 HT
  have b2 := b1.trans ((below_one w1 (.cells #[.int .i64 6, .int .i64 0, .string ⟨#[]⟩, .slice none 0 0] 26)).mono b1.size)
  have kz := kept_block k1 (below_one w1 (.cells #[.int .i64 6, .int .i64 0, .string ⟨#[]⟩, .slice none 0 0] 26))
  go_wp2_with fail
  refine (specGet_row _ _ _ body ([] : List Int) false (by rw [HO.out]; rfl) (by rw [HO.out]; rfl) _ (r1.below (below_one _ _)) (by omega)).mono ?_
  rintro e w2 ⟨ao2, cp2, rfl, ho2, r2, hb2⟩
  have kv := kept_block (block_last w1 _) hb2
  have kz := kept_block kz hb2
  have b3 := b2.trans (hb2.mono b2.size)
  have m2 : w1.heap.size + 1 ≤ w2.heap.size := by have := hb2.size; simpa using this
  obtain ⟨⟨x0, x1, x2, x3⟩, f0, f1, f2, f3⟩ := cells4 kv
  have kv := set_three (u := .slice ao2 0 cp2) kv
  have kz := set_other (g := w1.heap.size) (j := 3) (u := .slice ao2 0 cp2) kz (by omega)
  have b3 := below_set b3 (g := w1.heap.size) (by omega) 3 (.slice ao2 0 cp2)
  clear hb2 b2 k1 b1 r1 ho2 r2
  obtain ⟨⟨y0, y1, y2, y3⟩, d0, d1, d2, d3⟩ := cells4 kz
  clear kz kv
  go_wp2
  exact bodyPost_ret (v := .tuple #[.agg #[.int .i64 0, .int .i64 0, .string ⟨#[]⟩, .slice none 0 0], .int .i64 0, .bool false]) (by simp [results, Try.results13, go_sem, *]) rfl ⟨none, 0, rfl, World.ownsRow_nil _ _ _ _, irow_nil _, below_set4 b3 (Nat.le_refl _) _ _ _ _⟩

set_option maxRecDepth 100000 in
set_option maxHeartbeats 1000000 in
theorem specGetVal_bare (a1 : Option Addr) (l1 c1 : Nat) (z1 : List Int) (t : Int) (k : Int) (nx : Int) (body : List Int) (hT : getTlv z1 t = (k, body, nx, true)) (w : World) (h1 : Row w a1 l1 c1 z1) (hs : l1 ≤ 1048576) (k2 : (k == 2) = false) (k4 : (k == 4) = false) (k6 : (k == 6) = false) (hK : (bareOf k).isSome = true) (hL : ((body.length : Int) == 0) = true) :
    Calls Try.prog 13 #[.slice a1 l1 c1, .int .i64 t] w fun e w' => ∃ ao cap, e = .returned (.tuple #[.agg #[.int .i64 k, .int .i64 0, .string ⟨#[]⟩, .slice ao ([] : List Int).length cap], .int .i64 nx, .bool true]) ∧
      w'.ownsRow w.heap.size 3 1 (.slice ao ([] : List Int).length cap) ([] : List Int).length (cI ([] : List Int)) ∧ IRow w' ao ([] : List Int).length cap ([] : List Int) ∧ Below w.heap.size w w' := by
  have hbl : body.length ≤ 1048576 := by have := getTlv_length z1 t; rw [hT] at this; have := h1.size; simp at *; omega
  have HOK := hide (show okV k 0 ⟨#[]⟩ [] = true by rw [bare_ok (by simpa using k2) (by simpa using k4) (by simpa using k6)]; exact hK)
  clear hK
  have HT := hide hT
  clear hT
  go_enter Try.func13, Try.ntmps13
  go_wp2_with fail
  refine (specGet_made _ _ _ z1 t k nx true body HT.out _ (h1.below (below_one _ _)) (by omega)).mono ?_
  rintro e w1 ⟨ao1, cp1, rfl, -, r1, hb1⟩
  have k1 := kept_block (block_last w _) hb1
  have b1 : Below w.heap.size w w1 := (below_one w _).trans (hb1.mono (below_one w _).size)
  have m1 : w.heap.size + 1 ≤ w1.heap.size := by have := hb1.size; simpa using this
  clear hb1 HT
  have kv := block_last w1 (.cells #[.int .i64 k, .int .i64 0, .string ⟨#[]⟩, .slice none 0 0] 26)
  have kz := kept_block k1 (below_one w1 (.cells #[.int .i64 k, .int .i64 0, .string ⟨#[]⟩, .slice none 0 0] 26))
  have b2 := b1.trans ((below_one w1 (.cells #[.int .i64 k, .int .i64 0, .string ⟨#[]⟩, .slice none 0 0] 26)).mono b1.size)
  have KV := hide kv
  have KZ := hide kz
  clear kv kz k1 b1 r1
  go_wp2_with fail
  generalize w1.alloc (.cells #[.int .i64 k, .int .i64 0, .string ⟨#[]⟩, .slice none 0 0] 26) = W2 at *
  refine (specValOk_any k 0 ⟨#[]⟩ none 0 0 [] _ (irow_nil _)).mono ?_
  rintro e w3 ⟨rfl, hb3⟩
  rw [HOK.out]
  obtain ⟨⟨x0, x1, x2, x3⟩, -⟩ := cells4 (kept_block KV.out hb3)
  obtain ⟨⟨y0, y1, y2, y3⟩, f0, f1, f2, f3⟩ := cells4 (kept_block KZ.out hb3)
  have b4 := b2.trans (hb3.mono b2.size)
  clear hb3 b2 KV KZ
  go_wp2
  exact bodyPost_ret (v := .tuple #[.agg #[.int .i64 k, .int .i64 0, .string ⟨#[]⟩, .slice none 0 0], .int .i64 nx, .bool true]) (by simp [results, Try.results13, go_sem, *]) rfl ⟨none, 0, rfl, World.ownsRow_nil _ _ _ _, irow_nil _, below_set4 b4 (Nat.le_refl _) _ _ _ _⟩

set_option maxRecDepth 100000 in
set_option maxHeartbeats 1000000 in
theorem specGetVal_nokind (a1 : Option Addr) (l1 c1 : Nat) (z1 : List Int) (t : Int) (k : Int) (nx : Int) (body : List Int) (hT : getTlv z1 t = (k, body, nx, true)) (w : World) (h1 : Row w a1 l1 c1 z1) (hs : l1 ≤ 1048576) (k2 : (k == 2) = false) (k4 : (k == 4) = false) (k6 : (k == 6) = false) (hK : (bareOf k).isSome = false) (hL : ((body.length : Int) == 0) = true) :
    Calls Try.prog 13 #[.slice a1 l1 c1, .int .i64 t] w fun e w' => ∃ ao cap, e = .returned (.tuple #[.agg #[.int .i64 0, .int .i64 0, .string ⟨#[]⟩, .slice ao ([] : List Int).length cap], .int .i64 0, .bool false]) ∧
      w'.ownsRow w.heap.size 3 1 (.slice ao ([] : List Int).length cap) ([] : List Int).length (cI ([] : List Int)) ∧ IRow w' ao ([] : List Int).length cap ([] : List Int) ∧ Below w.heap.size w w' := by
  have hbl : body.length ≤ 1048576 := by have := getTlv_length z1 t; rw [hT] at this; have := h1.size; simp at *; omega
  have HOK := hide (show okV k 0 ⟨#[]⟩ [] = false by rw [bare_ok (by simpa using k2) (by simpa using k4) (by simpa using k6)]; exact hK)
  clear hK
  have HT := hide hT
  clear hT
  go_enter Try.func13, Try.ntmps13
  go_wp2_with fail
  refine (specGet_made _ _ _ z1 t k nx true body HT.out _ (h1.below (below_one _ _)) (by omega)).mono ?_
  rintro e w1 ⟨ao1, cp1, rfl, -, r1, hb1⟩
  have k1 := kept_block (block_last w _) hb1
  have b1 : Below w.heap.size w w1 := (below_one w _).trans (hb1.mono (below_one w _).size)
  have m1 : w.heap.size + 1 ≤ w1.heap.size := by have := hb1.size; simpa using this
  clear hb1 HT
  have kv := block_last w1 (.cells #[.int .i64 k, .int .i64 0, .string ⟨#[]⟩, .slice none 0 0] 26)
  have kz := kept_block k1 (below_one w1 (.cells #[.int .i64 k, .int .i64 0, .string ⟨#[]⟩, .slice none 0 0] 26))
  have b2 := b1.trans ((below_one w1 (.cells #[.int .i64 k, .int .i64 0, .string ⟨#[]⟩, .slice none 0 0] 26)).mono b1.size)
  have KV := hide kv
  have KZ := hide kz
  clear kv kz k1 b1 r1
  go_wp2_with fail
  generalize w1.alloc (.cells #[.int .i64 k, .int .i64 0, .string ⟨#[]⟩, .slice none 0 0] 26) = W2 at *
  refine (specValOk_any k 0 ⟨#[]⟩ none 0 0 [] _ (irow_nil _)).mono ?_
  rintro e w3 ⟨rfl, hb3⟩
  rw [HOK.out]
  obtain ⟨⟨x0, x1, x2, x3⟩, -⟩ := cells4 (kept_block KV.out hb3)
  obtain ⟨⟨y0, y1, y2, y3⟩, f0, f1, f2, f3⟩ := cells4 (kept_block KZ.out hb3)
  have b4 := b2.trans (hb3.mono b2.size)
  clear hb3 b2 KV KZ
  go_wp2
  exact bodyPost_ret (v := .tuple #[.agg #[.int .i64 0, .int .i64 0, .string ⟨#[]⟩, .slice none 0 0], .int .i64 0, .bool false]) (by simp [results, Try.results13, go_sem, *]) rfl ⟨none, 0, rfl, World.ownsRow_nil _ _ _ _, irow_nil _, below_set4 b4 (Nat.le_refl _) _ _ _ _⟩

set_option maxRecDepth 100000 in
set_option maxHeartbeats 1000000 in
theorem specGetVal_nobody (a1 : Option Addr) (l1 c1 : Nat) (z1 : List Int) (t : Int) (k : Int) (nx : Int) (body : List Int) (hT : getTlv z1 t = (k, body, nx, true)) (w : World) (h1 : Row w a1 l1 c1 z1) (hs : l1 ≤ 1048576) (k2 : (k == 2) = false) (k4 : (k == 4) = false) (k6 : (k == 6) = false) (hL : ((body.length : Int) == 0) = false) :
    Calls Try.prog 13 #[.slice a1 l1 c1, .int .i64 t] w fun e w' => ∃ ao cap, e = .returned (.tuple #[.agg #[.int .i64 0, .int .i64 0, .string ⟨#[]⟩, .slice ao ([] : List Int).length cap], .int .i64 0, .bool false]) ∧
      w'.ownsRow w.heap.size 3 1 (.slice ao ([] : List Int).length cap) ([] : List Int).length (cI ([] : List Int)) ∧ IRow w' ao ([] : List Int).length cap ([] : List Int) ∧ Below w.heap.size w w' := by
  have hbl : body.length ≤ 1048576 := by have := getTlv_length z1 t; rw [hT] at this; have := h1.size; simp at *; omega
  have HT := hide hT
  clear hT
  go_enter Try.func13, Try.ntmps13
  go_wp2_with fail
  refine (specGet_made _ _ _ z1 t k nx true body HT.out _ (h1.below (below_one _ _)) (by omega)).mono ?_
  rintro e w1 ⟨ao1, cp1, rfl, -, r1, hb1⟩
  have k1 := kept_block (block_last w _) hb1
  have b1 : Below w.heap.size w w1 := (below_one w _).trans (hb1.mono (below_one w _).size)
  have m1 : w.heap.size + 1 ≤ w1.heap.size := by have := hb1.size; simpa using this
  clear hb1 HT
  clear r1
  obtain ⟨⟨x0, x1, x2, x3⟩, f0, f1, f2, f3⟩ := cells4 (kept_block k1 (below_one w1 (.cells #[.int .i64 k, .int .i64 0, .string ⟨#[]⟩, .slice none 0 0] 26)))
  have b2 := b1.trans ((below_one w1 (.cells #[.int .i64 k, .int .i64 0, .string ⟨#[]⟩, .slice none 0 0] 26)).mono b1.size)
  clear k1 b1
  go_wp2
  exact bodyPost_ret (v := .tuple #[.agg #[.int .i64 0, .int .i64 0, .string ⟨#[]⟩, .slice none 0 0], .int .i64 0, .bool false]) (by simp [results, Try.results13, go_sem, *]) rfl ⟨none, 0, rfl, World.ownsRow_nil _ _ _ _, irow_nil _, below_set4 b2 (Nat.le_refl _) _ _ _ _⟩

theorem specGetVal_made (a1 : Option Addr) (l1 c1 : Nat) (z1 : List Int) (t K N : Int) (S : ByteArray) (O : List Int) (next : Int) (ok : Bool) (hG : getV z1 t = (K, N, S, O, next, ok)) (w : World) (h1 : Row w a1 l1 c1 z1) (hs : l1 ≤ 1048576) :
    Calls Try.prog 13 #[.slice a1 l1 c1, .int .i64 t] w fun e w' => ∃ ao cap, e = .returned (.tuple #[.agg #[.int .i64 K, .int .i64 N, .string S, .slice ao O.length cap], .int .i64 next, .bool ok]) ∧
      w'.ownsRow w.heap.size 3 1 (.slice ao O.length cap) O.length (cI O) ∧ IRow w' ao O.length cap O ∧ Below w.heap.size w w' := by
  rcases hT : getTlv z1 t with ⟨k, body, nx, okT⟩
  rcases getV_ways hG hT with ⟨rfl, e⟩ | ⟨rfl, rfl, hi, e⟩ | ⟨rfl, rfl, hi, e⟩ | ⟨rfl, rfl, hl, e⟩ | ⟨rfl, rfl, hl, e⟩ | ⟨rfl, rfl, o, ho, e⟩ | ⟨rfl, rfl, ho, e⟩ | ⟨rfl, ⟨k2, k4, k6⟩, hk, hl, e⟩ | ⟨rfl, ⟨k2, k4, k6⟩, hk, e⟩
  all_goals (cases e)
  · obtain ⟨rfl, rfl, rfl⟩ := getTlv_none hT
    exact specGetVal_notlv a1 l1 c1 z1 t _ _ hT w h1 hs
  · exact specGetVal_int a1 l1 c1 z1 t _ _ body hT w h1 hs (Prod.ext rfl hi)
  · exact specGetVal_noint a1 l1 c1 z1 t _ _ body hT w h1 hs (Prod.ext rfl hi)
  · exact specGetVal_text a1 l1 c1 z1 t _ body hT w h1 hs hl
  · exact specGetVal_notext a1 l1 c1 z1 t _ body hT w h1 hs hl
  · exact specGetVal_oid a1 l1 c1 z1 t _ _ body hT w h1 hs ho
  · exact specGetVal_nooid a1 l1 c1 z1 t _ body hT w h1 hs ho
  · exact specGetVal_bare a1 l1 c1 z1 t _ _ body hT w h1 hs (by simpa using k2) (by simpa using k4) (by simpa using k6) (by obtain ⟨x, hx, _⟩ := bare_some hk; rw [hx]; rfl) (by rw [hl]; rfl)
  · have k2' : (k == 2) = false := by simpa using k2
    have k4' : (k == 4) = false := by simpa using k4
    have k6' : (k == 6) = false := by simpa using k6
    cases hL : ((body.length : Int) == 0)
    · exact specGetVal_nobody a1 l1 c1 z1 t k nx body hT w h1 hs k2' k4' k6' hL
    · exact specGetVal_nokind a1 l1 c1 z1 t k nx body hT w h1 hs k2' k4' k6' (by rw [hL, Bool.and_true] at hk; exact hk) hL

end Go.Proofs.Ytfjojchenmdhdaa
