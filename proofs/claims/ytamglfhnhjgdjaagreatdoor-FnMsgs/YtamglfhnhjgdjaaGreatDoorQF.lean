/-
  A value out of its bytes, by the contract of the program.
  A value out of its bytes, by the contract of the specification.
  A value comes back of its bytes; what is read is right, and has these bytes.
-/
import Derived.Test.YtamglfhnhjgdjaaGreatDoorQE
import Derived.Test.YtamglfhnhjgdjaaGreatDoorQD
import Derived.Test.YtamglfhnhjgdjaaGreatDoorQC
import Derived.Laws.IdiomStrings
namespace Go.Proofs.YtamglfhnhjgdjaaGreatDoor
open Go.RowKit

/-- What a kind's bytes say. -/
def getBody (k : Int) (body : List Int) : Option (Int × Int × ByteArray × List Int) :=
  if k = 2 then (if (getInt body).2 = true then some (2, (getInt body).1, ⟨#[]⟩, []) else none)
  else if k = 4 then (if body.length ≤ 20 then some (4, 0, byB body, []) else none)
  else if k = 6 then (getO body).map (fun o => (6, 0, ⟨#[]⟩, o))
  else if (k = 5 ∨ k = 128 ∨ k = 130) ∧ body.length = 0 then some (k, 0, ⟨#[]⟩, []) else none

def zeroV : Int × Int × ByteArray × List Int × Int × Bool := (0, 0, ⟨#[]⟩, [], 0, false)

def getV (zs : List Int) (t : Int) : Int × Int × ByteArray × List Int × Int × Bool :=
  if (getTlv zs t).2.2.2 = true then
    match getBody (getTlv zs t).1 (getTlv zs t).2.1 with
    | some (K, N, S, z) => (K, N, S, z, (getTlv zs t).2.2.1, true)
    | none => zeroV
  else zeroV

set_option maxRecDepth 100000 in
set_option maxHeartbeats 400000 in
theorem worthIn_int (a1 : Option Addr) (l1 c1 : Nat) (z1 : List Int) (n : Int) (ok : Bool) (hG : getInt z1 = (n, ok)) (w : World) (h1 : Row w a1 l1 c1 z1) (hs : l1 ≤ 16777216) :
    Calls Tryz.prog 117 #[.int .i64 2, .slice a1 l1 c1] w fun e w' => e = .returned (.tuple #[.iface 160 (.int .i64 n), .bool ok]) ∧ w' = w := by
  have HG := hide hG
  clear hG
  go_enter Tryz.func117, Tryz.ntmps117
  go_wp2_with fail
  refine (implGetInt_any a1 l1 c1 z1 _ h1 hs).mono ?_
  rintro e w1 ⟨rfl, rfl⟩
  rw [HG.out]
  go_wp2
  go_ret2
  exact ⟨rfl, rfl⟩

set_option maxRecDepth 100000 in
set_option maxHeartbeats 400000 in
theorem worthIn_text (a1 : Option Addr) (l1 c1 : Nat) (z1 : List Int) (w : World) (h1 : Row w a1 l1 c1 z1) :
    Calls Tryz.prog 117 #[.int .i64 4, .slice a1 l1 c1] w fun e w' => e = .returned (.tuple #[.iface 161 (.string (byB z1)), .bool (decide ((l1 : Int) ≤ 20))]) ∧ w' = w := by
  have hcv := conv_row 161 w a1 l1 c1 z1 h1 Tryz.underlying161
  go_enter Tryz.func117, Tryz.ntmps117
  go_wp2
  go_ret2
  exact ⟨rfl, rfl⟩

set_option maxRecDepth 100000 in
set_option maxHeartbeats 400000 in
theorem worthIn_oid (a1 : Option Addr) (l1 c1 : Nat) (z1 O : List Int) (ok : Bool) (hO : (getO z1).getD [] = O) (hok : (getO z1).isSome = ok) (w : World) (h1 : Row w a1 l1 c1 z1) (hs : l1 ≤ 1048576) :
    Calls Tryz.prog 117 #[.int .i64 6, .slice a1 l1 c1] w fun e w' => ∃ ao cap, e = .returned (.tuple #[.iface 162 (.slice ao O.length cap), .bool ok]) ∧
      w'.ownsRow w.heap.size 3 1 (.slice ao O.length cap) O.length (cI O) ∧ IRow w' ao O.length cap O ∧ Below w.heap.size w w' := by
  go_enter Tryz.func117, Tryz.ntmps117
  go_wp2_with fail
  refine (implGet_row a1 l1 c1 z1 O ok hO hok _ h1 hs).mono ?_
  rintro e w1 ⟨ao, cp, rfl, ho, hr, hb⟩
  go_wp2
  go_ret2
  exact ⟨_, _, rfl, ho, hr, hb⟩

theorem Wor.v_iface (x : Wor) : ∃ t v, x.v = .iface t v := by cases x using Wor.byCase <;> exact ⟨_, _, rfl⟩

set_option maxRecDepth 100000 in
set_option maxHeartbeats 400000 in
theorem worthIn_bare (k : Int) (a1 : Option Addr) (l1 c1 : Nat) (w : World) (k2 : ¬ k = 2) (k4 : ¬ k = 4) (k6 : ¬ k = 6) :
    Calls Tryz.prog 117 #[.int .i64 k, .slice a1 l1 c1] w fun e w' => e = .returned (.tuple #[worV (bareOf k), .bool ((bareOf k).isSome && ((l1 : Int) == 0))]) ∧ w' = w := by
  have t2 : (k == 2) = false := by simpa using k2
  have t4 : (k == 4) = false := by simpa using k4
  have t6 : (k == 6) = false := by simpa using k6
  clear k2 k4 k6
  cases hx : bareOf k with
  | none =>
    have HX := hide hx
    clear hx
    go_enter Tryz.func117, Tryz.ntmps117
    go_wp2_with fail
    refine (bare_any k _).mono ?_
    rintro e w1 ⟨rfl, rfl⟩
    rw [HX.out, show worV Option.none = .nilIface from rfl]
    go_wp2
    go_ret2
    exact ⟨rfl, rfl⟩
  | some x =>
    obtain ⟨ty, v, hv⟩ := x.v_iface
    have HX := hide hx
    have HV := hide hv
    clear hx hv
    go_enter Tryz.func117, Tryz.ntmps117
    go_wp2_with fail
    refine (bare_any k _).mono ?_
    rintro e w1 ⟨rfl, rfl⟩
    rw [HX.out, show worV (some x) = x.v from rfl, HV.out]
    go_wp2
    go_ret2
    exact ⟨ret_val (by rw [show worV (some x) = x.v from rfl, HV.out]; rfl), rfl⟩

set_option maxRecDepth 100000 in
set_option maxHeartbeats 1000000 in
theorem implGetVal_notlv (a1 : Option Addr) (l1 c1 : Nat) (z1 : List Int) (t : Int) (k : Int) (nx : Int) (body : List Int) (hT : getTlv z1 t = (k, body, nx, false)) (w : World) (h1 : Row w a1 l1 c1 z1) (hs : l1 ≤ 1048576) :
    Calls Tryz.prog 114 #[.slice a1 l1 c1, .int .i64 t] w fun e w' => ∃ ao cap, e = .returned (.tuple #[.agg #[.int .i64 0, .int .i64 0, .string ⟨#[]⟩, .slice ao ([] : List Int).length cap], .int .i64 0, .bool false]) ∧
      w'.ownsRow w.heap.size 3 1 (.slice ao ([] : List Int).length cap) ([] : List Int).length (cI ([] : List Int)) ∧ IRow w' ao ([] : List Int).length cap ([] : List Int) ∧ Below w.heap.size w w' := by
  have hbl : body.length ≤ 1048576 := by have := getTlv_length z1 t; rw [hT] at this; have := h1.size; simp at *; omega
  have HT := hide hT
  clear hT
  go_enter Tryz.func114, Tryz.ntmps114
  go_wp2_with fail
  refine (implGet_made _ _ _ z1 t k nx false body HT.out _ (h1.below (below_one _ _)) (by omega)).mono ?_
  rintro e w1 ⟨ao1, cp1, rfl, -, r1, hb1⟩
  have k1 := kept_block (block_last w _) hb1
  have b1 : Below w.heap.size w w1 := (below_one w _).trans (hb1.mono (below_one w _).size)
  have m1 : w.heap.size + 1 ≤ w1.heap.size := by have := hb1.size; simpa using this
  clear hb1
  clear r1 HT
  obtain ⟨⟨x0, x1, x2, x3⟩, f0, f1, f2, f3⟩ := cells4 k1
  go_wp2
  exact bodyPost_ret (v := .tuple #[.agg #[.int .i64 0, .int .i64 0, .string ⟨#[]⟩, .slice none 0 0], .int .i64 0, .bool false]) (by simp [results, Tryz.results114, go_sem, *]) rfl ⟨none, 0, rfl, World.ownsRow_nil _ _ _ _, irow_nil _, below_set4 b1 (Nat.le_refl _) _ _ _ _⟩

set_option maxRecDepth 100000 in
set_option maxHeartbeats 1000000 in
theorem implGetVal_int (a1 : Option Addr) (l1 c1 : Nat) (z1 : List Int) (t : Int) (n : Int) (nx : Int) (body : List Int) (hT : getTlv z1 t = (2, body, nx, true)) (w : World) (h1 : Row w a1 l1 c1 z1) (hs : l1 ≤ 1048576) (hN : getInt body = (n, true)) :
    Calls Tryz.prog 114 #[.slice a1 l1 c1, .int .i64 t] w fun e w' => ∃ ao cap, e = .returned (.tuple #[.agg #[.int .i64 2, .int .i64 n, .string ⟨#[]⟩, .slice ao ([] : List Int).length cap], .int .i64 nx, .bool true]) ∧
      w'.ownsRow w.heap.size 3 1 (.slice ao ([] : List Int).length cap) ([] : List Int).length (cI ([] : List Int)) ∧ IRow w' ao ([] : List Int).length cap ([] : List Int) ∧ Below w.heap.size w w' := by
  have hbl : body.length ≤ 1048576 := by have := getTlv_length z1 t; rw [hT] at this; have := h1.size; simp at *; omega
  have HT := hide hT
  clear hT
  go_enter Tryz.func114, Tryz.ntmps114
  go_wp2_with fail
  refine (implGet_made _ _ _ z1 t 2 nx true body HT.out _ (h1.below (below_one _ _)) (by omega)).mono ?_
  rintro e w1 ⟨ao1, cp1, rfl, -, r1, hb1⟩
  have k1 := kept_block (block_last w _) hb1
  have b1 : Below w.heap.size w w1 := (below_one w _).trans (hb1.mono (below_one w _).size)
  have m1 : w.heap.size + 1 ≤ w1.heap.size := by have := hb1.size; simpa using this
  clear hb1
  go_wp2_with fail
  refine (worthIn_int _ _ _ body n true hN _ r1 (by omega)).mono ?_
  rintro e w2 ⟨rfl, rfl⟩
  clear r1 HT hN
  go_wp2_with fail
  refine (valOf_any (.int n) _).mono ?_
  rintro e w3 ⟨rfl, hb3⟩
  rw [show (Wor.int n).kind = 2 from rfl, show (Wor.int n).num = n from rfl, show (Wor.int n).str = ⟨#[]⟩ from rfl, show (Wor.int n).sl = .slice none 0 0 from rfl]
  obtain ⟨⟨x0, x1, x2, x3⟩, f0, f1, f2, f3⟩ := cells4 (kept_block k1 hb3)
  have b3 := b1.trans (hb3.mono b1.size)
  clear k1 hb3
  go_wp2
  exact bodyPost_ret (v := .tuple #[.agg #[.int .i64 2, .int .i64 n, .string ⟨#[]⟩, .slice none 0 0], .int .i64 nx, .bool true]) (by simp [results, Tryz.results114, go_sem, *]) rfl ⟨none, 0, rfl, World.ownsRow_nil _ _ _ _, irow_nil _, below_set4 b3 (Nat.le_refl _) _ _ _ _⟩

set_option maxRecDepth 100000 in
set_option maxHeartbeats 1000000 in
theorem implGetVal_noint (a1 : Option Addr) (l1 c1 : Nat) (z1 : List Int) (t : Int) (n : Int) (nx : Int) (body : List Int) (hT : getTlv z1 t = (2, body, nx, true)) (w : World) (h1 : Row w a1 l1 c1 z1) (hs : l1 ≤ 1048576) (hN : getInt body = (n, false)) :
    Calls Tryz.prog 114 #[.slice a1 l1 c1, .int .i64 t] w fun e w' => ∃ ao cap, e = .returned (.tuple #[.agg #[.int .i64 0, .int .i64 0, .string ⟨#[]⟩, .slice ao ([] : List Int).length cap], .int .i64 0, .bool false]) ∧
      w'.ownsRow w.heap.size 3 1 (.slice ao ([] : List Int).length cap) ([] : List Int).length (cI ([] : List Int)) ∧ IRow w' ao ([] : List Int).length cap ([] : List Int) ∧ Below w.heap.size w w' := by
  have hbl : body.length ≤ 1048576 := by have := getTlv_length z1 t; rw [hT] at this; have := h1.size; simp at *; omega
  have HT := hide hT
  clear hT
  go_enter Tryz.func114, Tryz.ntmps114
  go_wp2_with fail
  refine (implGet_made _ _ _ z1 t 2 nx true body HT.out _ (h1.below (below_one _ _)) (by omega)).mono ?_
  rintro e w1 ⟨ao1, cp1, rfl, -, r1, hb1⟩
  have k1 := kept_block (block_last w _) hb1
  have b1 : Below w.heap.size w w1 := (below_one w _).trans (hb1.mono (below_one w _).size)
  have m1 : w.heap.size + 1 ≤ w1.heap.size := by have := hb1.size; simpa using this
  clear hb1
  go_wp2_with fail
  refine (worthIn_int _ _ _ body n false hN _ r1 (by omega)).mono ?_
  rintro e w2 ⟨rfl, rfl⟩
  clear r1 HT hN
  obtain ⟨⟨x0, x1, x2, x3⟩, f0, f1, f2, f3⟩ := cells4 k1
  go_wp2
  exact bodyPost_ret (v := .tuple #[.agg #[.int .i64 0, .int .i64 0, .string ⟨#[]⟩, .slice none 0 0], .int .i64 0, .bool false]) (by simp [results, Tryz.results114, go_sem, *]) rfl ⟨none, 0, rfl, World.ownsRow_nil _ _ _ _, irow_nil _, below_set4 b1 (Nat.le_refl _) _ _ _ _⟩

set_option maxRecDepth 100000 in
set_option maxHeartbeats 1000000 in
theorem implGetVal_text (a1 : Option Addr) (l1 c1 : Nat) (z1 : List Int) (t : Int) (nx : Int) (body : List Int) (hT : getTlv z1 t = (4, body, nx, true)) (w : World) (h1 : Row w a1 l1 c1 z1) (hs : l1 ≤ 1048576) (hL : body.length ≤ 20) :
    Calls Tryz.prog 114 #[.slice a1 l1 c1, .int .i64 t] w fun e w' => ∃ ao cap, e = .returned (.tuple #[.agg #[.int .i64 4, .int .i64 0, .string (byB body), .slice ao ([] : List Int).length cap], .int .i64 nx, .bool true]) ∧
      w'.ownsRow w.heap.size 3 1 (.slice ao ([] : List Int).length cap) ([] : List Int).length (cI ([] : List Int)) ∧ IRow w' ao ([] : List Int).length cap ([] : List Int) ∧ Below w.heap.size w w' := by
  have hbl : body.length ≤ 1048576 := by have := getTlv_length z1 t; rw [hT] at this; have := h1.size; simp at *; omega
  have HT := hide hT
  clear hT
  go_enter Tryz.func114, Tryz.ntmps114
  go_wp2_with fail
  refine (implGet_made _ _ _ z1 t 4 nx true body HT.out _ (h1.below (below_one _ _)) (by omega)).mono ?_
  rintro e w1 ⟨ao1, cp1, rfl, -, r1, hb1⟩
  have k1 := kept_block (block_last w _) hb1
  have b1 : Below w.heap.size w w1 := (below_one w _).trans (hb1.mono (below_one w _).size)
  have m1 : w.heap.size + 1 ≤ w1.heap.size := by have := hb1.size; simpa using this
  clear hb1
  go_wp2_with fail
  refine (worthIn_text _ _ _ body _ r1).mono ?_
  rintro e w2 ⟨rfl, rfl⟩
  rw [decide_eq_true (by omega : ((body.length : Int) ≤ 20))]
  clear r1 HT
  go_wp2_with fail
  refine (valOf_any (.text (byB body)) _).mono ?_
  rintro e w3 ⟨rfl, hb3⟩
  rw [show (Wor.text (byB body)).kind = 4 from rfl, show (Wor.text (byB body)).num = 0 from rfl, show (Wor.text (byB body)).str = byB body from rfl, show (Wor.text (byB body)).sl = .slice none 0 0 from rfl]
  obtain ⟨⟨x0, x1, x2, x3⟩, f0, f1, f2, f3⟩ := cells4 (kept_block k1 hb3)
  have b3 := b1.trans (hb3.mono b1.size)
  clear k1 hb3
  go_wp2
  exact bodyPost_ret (v := .tuple #[.agg #[.int .i64 4, .int .i64 0, .string (byB body), .slice none 0 0], .int .i64 nx, .bool true]) (by simp [results, Tryz.results114, go_sem, *]) rfl ⟨none, 0, rfl, World.ownsRow_nil _ _ _ _, irow_nil _, below_set4 b3 (Nat.le_refl _) _ _ _ _⟩

set_option maxRecDepth 100000 in
set_option maxHeartbeats 1000000 in
theorem implGetVal_notext (a1 : Option Addr) (l1 c1 : Nat) (z1 : List Int) (t : Int) (nx : Int) (body : List Int) (hT : getTlv z1 t = (4, body, nx, true)) (w : World) (h1 : Row w a1 l1 c1 z1) (hs : l1 ≤ 1048576) (hL : ¬ body.length ≤ 20) :
    Calls Tryz.prog 114 #[.slice a1 l1 c1, .int .i64 t] w fun e w' => ∃ ao cap, e = .returned (.tuple #[.agg #[.int .i64 0, .int .i64 0, .string ⟨#[]⟩, .slice ao ([] : List Int).length cap], .int .i64 0, .bool false]) ∧
      w'.ownsRow w.heap.size 3 1 (.slice ao ([] : List Int).length cap) ([] : List Int).length (cI ([] : List Int)) ∧ IRow w' ao ([] : List Int).length cap ([] : List Int) ∧ Below w.heap.size w w' := by
  have hbl : body.length ≤ 1048576 := by have := getTlv_length z1 t; rw [hT] at this; have := h1.size; simp at *; omega
  have HT := hide hT
  clear hT
  go_enter Tryz.func114, Tryz.ntmps114
  go_wp2_with fail
  refine (implGet_made _ _ _ z1 t 4 nx true body HT.out _ (h1.below (below_one _ _)) (by omega)).mono ?_
  rintro e w1 ⟨ao1, cp1, rfl, -, r1, hb1⟩
  have k1 := kept_block (block_last w _) hb1
  have b1 : Below w.heap.size w w1 := (below_one w _).trans (hb1.mono (below_one w _).size)
  have m1 : w.heap.size + 1 ≤ w1.heap.size := by have := hb1.size; simpa using this
  clear hb1
  go_wp2_with fail
  refine (worthIn_text _ _ _ body _ r1).mono ?_
  rintro e w2 ⟨rfl, rfl⟩
  rw [decide_eq_false (by omega : ¬ ((body.length : Int) ≤ 20))]
  clear r1 HT
  obtain ⟨⟨x0, x1, x2, x3⟩, f0, f1, f2, f3⟩ := cells4 k1
  go_wp2
  exact bodyPost_ret (v := .tuple #[.agg #[.int .i64 0, .int .i64 0, .string ⟨#[]⟩, .slice none 0 0], .int .i64 0, .bool false]) (by simp [results, Tryz.results114, go_sem, *]) rfl ⟨none, 0, rfl, World.ownsRow_nil _ _ _ _, irow_nil _, below_set4 b1 (Nat.le_refl _) _ _ _ _⟩

set_option maxRecDepth 100000 in
set_option maxHeartbeats 1000000 in
theorem implGetVal_oid (a1 : Option Addr) (l1 c1 : Nat) (z1 : List Int) (t : Int) (O : List Int) (nx : Int) (body : List Int) (hT : getTlv z1 t = (6, body, nx, true)) (w : World) (h1 : Row w a1 l1 c1 z1) (hs : l1 ≤ 1048576) (hO : getO body = some O) :
    Calls Tryz.prog 114 #[.slice a1 l1 c1, .int .i64 t] w fun e w' => ∃ ao cap, e = .returned (.tuple #[.agg #[.int .i64 6, .int .i64 0, .string ⟨#[]⟩, .slice ao O.length cap], .int .i64 nx, .bool true]) ∧
      w'.ownsRow w.heap.size 3 1 (.slice ao O.length cap) O.length (cI O) ∧ IRow w' ao O.length cap O ∧ Below w.heap.size w w' := by
  have hbl : body.length ≤ 1048576 := by have := getTlv_length z1 t; rw [hT] at this; have := h1.size; simp at *; omega
  have HT := hide hT
  clear hT
  go_enter Tryz.func114, Tryz.ntmps114
  go_wp2_with fail
  refine (implGet_made _ _ _ z1 t 6 nx true body HT.out _ (h1.below (below_one _ _)) (by omega)).mono ?_
  rintro e w1 ⟨ao1, cp1, rfl, -, r1, hb1⟩
  have k1 := kept_block (block_last w _) hb1
  have b1 : Below w.heap.size w w1 := (below_one w _).trans (hb1.mono (below_one w _).size)
  have m1 : w.heap.size + 1 ≤ w1.heap.size := by have := hb1.size; simpa using this
  clear hb1
  go_wp2_with fail
  refine (worthIn_oid _ _ _ body O true (by rw [hO]; rfl) (by rw [hO]; rfl) _ r1 (by omega)).mono ?_
  rintro e w2 ⟨ao2, cp2, rfl, ho2, r2, hb2⟩
  have b2 := b1.trans (hb2.mono b1.size)
  have k2 := kept_block k1 hb2
  have hby := r2.byte
  clear r1 HT hO hb2 k1 r2
  go_wp2_with fail
  refine (valOf_any (.oid ao2 O.length cp2 O) _).mono ?_
  rintro e w3 ⟨rfl, hb3⟩
  rw [show (Wor.oid ao2 O.length cp2 O).kind = 6 from rfl, show (Wor.oid ao2 O.length cp2 O).num = 0 from rfl, show (Wor.oid ao2 O.length cp2 O).str = ⟨#[]⟩ from rfl, show (Wor.oid ao2 O.length cp2 O).sl = .slice ao2 O.length cp2 from rfl]
  obtain ⟨⟨x0, x1, x2, x3⟩, f0, f1, f2, f3⟩ := cells4 (kept_block k2 hb3)
  have b3 := b2.trans (hb3.mono b2.size)
  have o3 := own_below ho2 hb3
  clear k2 hb3 ho2 b1 b2
  have HO3 := hide o3
  clear o3
  go_wp2
  have o4 := own_set4 (own_lt HO3.out m1) (g := w.heap.size) (by omega) (.int .i64 6) (.int .i64 0) (.string ⟨#[]⟩) (.slice ao2 O.length cp2)
  exact bodyPost_ret (v := .tuple #[.agg #[.int .i64 6, .int .i64 0, .string ⟨#[]⟩, .slice ao2 O.length cp2], .int .i64 nx, .bool true]) (by simp [results, Tryz.results114, go_sem, *]) rfl ⟨ao2, cp2, rfl, own_lt o4 (by omega), irow_own o4 hby, below_set4 b3 (Nat.le_refl _) _ _ _ _⟩

set_option maxRecDepth 100000 in
set_option maxHeartbeats 1000000 in
theorem implGetVal_nooid (a1 : Option Addr) (l1 c1 : Nat) (z1 : List Int) (t : Int) (nx : Int) (body : List Int) (hT : getTlv z1 t = (6, body, nx, true)) (w : World) (h1 : Row w a1 l1 c1 z1) (hs : l1 ≤ 1048576) (hO : getO body = none) :
    Calls Tryz.prog 114 #[.slice a1 l1 c1, .int .i64 t] w fun e w' => ∃ ao cap, e = .returned (.tuple #[.agg #[.int .i64 0, .int .i64 0, .string ⟨#[]⟩, .slice ao ([] : List Int).length cap], .int .i64 0, .bool false]) ∧
      w'.ownsRow w.heap.size 3 1 (.slice ao ([] : List Int).length cap) ([] : List Int).length (cI ([] : List Int)) ∧ IRow w' ao ([] : List Int).length cap ([] : List Int) ∧ Below w.heap.size w w' := by
  have hbl : body.length ≤ 1048576 := by have := getTlv_length z1 t; rw [hT] at this; have := h1.size; simp at *; omega
  have HT := hide hT
  clear hT
  go_enter Tryz.func114, Tryz.ntmps114
  go_wp2_with fail
  refine (implGet_made _ _ _ z1 t 6 nx true body HT.out _ (h1.below (below_one _ _)) (by omega)).mono ?_
  rintro e w1 ⟨ao1, cp1, rfl, -, r1, hb1⟩
  have k1 := kept_block (block_last w _) hb1
  have b1 : Below w.heap.size w w1 := (below_one w _).trans (hb1.mono (below_one w _).size)
  have m1 : w.heap.size + 1 ≤ w1.heap.size := by have := hb1.size; simpa using this
  clear hb1
  go_wp2_with fail
  refine (worthIn_oid _ _ _ body [] false (by rw [hO]; rfl) (by rw [hO]; rfl) _ r1 (by omega)).mono ?_
  rintro e w2 ⟨ao2, cp2, rfl, -, -, hb2⟩
  have b2 := b1.trans (hb2.mono b1.size)
  have k2 := kept_block k1 hb2
  clear r1 HT hO hb2 k1 b1
  obtain ⟨⟨x0, x1, x2, x3⟩, f0, f1, f2, f3⟩ := cells4 k2
  go_wp2
  exact bodyPost_ret (v := .tuple #[.agg #[.int .i64 0, .int .i64 0, .string ⟨#[]⟩, .slice none 0 0], .int .i64 0, .bool false]) (by simp [results, Tryz.results114, go_sem, *]) rfl ⟨none, 0, rfl, World.ownsRow_nil _ _ _ _, irow_nil _, below_set4 b2 (Nat.le_refl _) _ _ _ _⟩

theorem bare_some {k : Int} (h : k = 5 ∨ k = 128 ∨ k = 130) : ∃ x, bareOf k = some x ∧ x.kind = k ∧ x.num = 0 ∧ x.str = ⟨#[]⟩ ∧ x.sl = .slice none 0 0 := by
  rcases h with rfl | rfl | rfl
  · exact ⟨.null, rfl, rfl, rfl, rfl, rfl⟩
  · exact ⟨.none, rfl, rfl, rfl, rfl, rfl⟩
  · exact ⟨.last, rfl, rfl, rfl, rfl, rfl⟩

set_option maxRecDepth 100000 in
set_option maxHeartbeats 1000000 in
theorem implGetVal_bare (a1 : Option Addr) (l1 c1 : Nat) (z1 : List Int) (t : Int) (k : Int) (nx : Int) (body : List Int) (hT : getTlv z1 t = (k, body, nx, true)) (w : World) (h1 : Row w a1 l1 c1 z1) (hs : l1 ≤ 1048576) (k2 : ¬ k = 2) (k4 : ¬ k = 4) (k6 : ¬ k = 6) (hK : k = 5 ∨ k = 128 ∨ k = 130) (hL : body.length = 0) :
    Calls Tryz.prog 114 #[.slice a1 l1 c1, .int .i64 t] w fun e w' => ∃ ao cap, e = .returned (.tuple #[.agg #[.int .i64 k, .int .i64 0, .string ⟨#[]⟩, .slice ao ([] : List Int).length cap], .int .i64 nx, .bool true]) ∧
      w'.ownsRow w.heap.size 3 1 (.slice ao ([] : List Int).length cap) ([] : List Int).length (cI ([] : List Int)) ∧ IRow w' ao ([] : List Int).length cap ([] : List Int) ∧ Below w.heap.size w w' := by
  have hbl : body.length ≤ 1048576 := by have := getTlv_length z1 t; rw [hT] at this; have := h1.size; simp at *; omega
  have HL := hide hL
  clear hL
  have HT := hide hT
  clear hT
  go_enter Tryz.func114, Tryz.ntmps114
  go_wp2_with fail
  refine (implGet_made _ _ _ z1 t k nx true body HT.out _ (h1.below (below_one _ _)) (by omega)).mono ?_
  rintro e w1 ⟨ao1, cp1, rfl, -, r1, hb1⟩
  have k1 := kept_block (block_last w _) hb1
  have b1 : Below w.heap.size w w1 := (below_one w _).trans (hb1.mono (below_one w _).size)
  have m1 : w.heap.size + 1 ≤ w1.heap.size := by have := hb1.size; simpa using this
  clear hb1
  obtain ⟨x, hx, hxk, hxn, hxs, hxl⟩ := bare_some hK
  go_wp2_with fail
  refine (worthIn_bare k _ _ _ _ k2 k4 k6).mono ?_
  rintro e w2 ⟨rfl, rfl⟩
  rw [show ((bareOf k).isSome && ((body.length : Int) == 0)) = true by rw [hx, HL.out]; rfl, hx, show worV (some x) = x.v from rfl]
  clear r1 HT k2 k4 k6 HL hK hx
  have HX1 := hide hxk
  have HX2 := hide hxn
  have HX3 := hide hxs
  have HX4 := hide hxl
  clear hxk hxn hxs hxl
  go_wp2_with fail
  refine (valOf_any x _).mono ?_
  rintro e w3 ⟨rfl, hb3⟩
  rw [HX1.out, HX2.out, HX3.out, HX4.out]
  obtain ⟨⟨x0, x1, x2, x3⟩, f0, f1, f2, f3⟩ := cells4 (kept_block k1 hb3)
  have b3 := b1.trans (hb3.mono b1.size)
  clear k1 hb3
  go_wp2
  exact bodyPost_ret (v := .tuple #[.agg #[.int .i64 k, .int .i64 0, .string ⟨#[]⟩, .slice none 0 0], .int .i64 nx, .bool true]) (by simp [results, Tryz.results114, go_sem, *]) rfl ⟨none, 0, rfl, World.ownsRow_nil _ _ _ _, irow_nil _, below_set4 b3 (Nat.le_refl _) _ _ _ _⟩

set_option maxRecDepth 100000 in
set_option maxHeartbeats 1000000 in
theorem implGetVal_nobare (a1 : Option Addr) (l1 c1 : Nat) (z1 : List Int) (t : Int) (k : Int) (nx : Int) (body : List Int) (hT : getTlv z1 t = (k, body, nx, true)) (w : World) (h1 : Row w a1 l1 c1 z1) (hs : l1 ≤ 1048576) (k2 : ¬ k = 2) (k4 : ¬ k = 4) (k6 : ¬ k = 6) (hK : ((bareOf k).isSome && ((body.length : Int) == 0)) = false) :
    Calls Tryz.prog 114 #[.slice a1 l1 c1, .int .i64 t] w fun e w' => ∃ ao cap, e = .returned (.tuple #[.agg #[.int .i64 0, .int .i64 0, .string ⟨#[]⟩, .slice ao ([] : List Int).length cap], .int .i64 0, .bool false]) ∧
      w'.ownsRow w.heap.size 3 1 (.slice ao ([] : List Int).length cap) ([] : List Int).length (cI ([] : List Int)) ∧ IRow w' ao ([] : List Int).length cap ([] : List Int) ∧ Below w.heap.size w w' := by
  have hbl : body.length ≤ 1048576 := by have := getTlv_length z1 t; rw [hT] at this; have := h1.size; simp at *; omega
  have HT := hide hT
  clear hT
  go_enter Tryz.func114, Tryz.ntmps114
  go_wp2_with fail
  refine (implGet_made _ _ _ z1 t k nx true body HT.out _ (h1.below (below_one _ _)) (by omega)).mono ?_
  rintro e w1 ⟨ao1, cp1, rfl, -, r1, hb1⟩
  have k1 := kept_block (block_last w _) hb1
  have b1 : Below w.heap.size w w1 := (below_one w _).trans (hb1.mono (below_one w _).size)
  have m1 : w.heap.size + 1 ≤ w1.heap.size := by have := hb1.size; simpa using this
  clear hb1
  go_wp2_with fail
  refine (worthIn_bare k _ _ _ _ k2 k4 k6).mono ?_
  rintro e w2 ⟨rfl, rfl⟩
  rw [hK]
  clear r1 HT k2 k4 k6 hK
  obtain ⟨⟨x0, x1, x2, x3⟩, f0, f1, f2, f3⟩ := cells4 k1
  go_wp2
  exact bodyPost_ret (v := .tuple #[.agg #[.int .i64 0, .int .i64 0, .string ⟨#[]⟩, .slice none 0 0], .int .i64 0, .bool false]) (by simp [results, Tryz.results114, go_sem, *]) rfl ⟨none, 0, rfl, World.ownsRow_nil _ _ _ _, irow_nil _, below_set4 b1 (Nat.le_refl _) _ _ _ _⟩

theorem bare_is {k : Int} (h : (bareOf k).isSome = true) : k = 5 ∨ k = 128 ∨ k = 130 := by
  unfold bareOf at h
  repeat' split at h
  · exact .inl ‹_›
  · exact .inr (.inl ‹_›)
  · exact .inr (.inr ‹_›)
  · cases h

/-- All ways of a value that is read. -/
theorem getV_ways {z1 : List Int} {t K N : Int} {S : ByteArray} {O : List Int} {next : Int} {ok : Bool} (hG : getV z1 t = (K, N, S, O, next, ok)) {k : Int} {body : List Int} {nx : Int} {okT : Bool} (hT : getTlv z1 t = (k, body, nx, okT)) :
    (okT = false ∧ (K, N, S, O, next, ok) = zeroV) ∨
    (okT = true ∧ k = 2 ∧ (getInt body).2 = true ∧ (K, N, S, O, next, ok) = (2, (getInt body).1, ⟨#[]⟩, [], nx, true)) ∨
    (okT = true ∧ k = 2 ∧ (getInt body).2 = false ∧ (K, N, S, O, next, ok) = zeroV) ∨
    (okT = true ∧ k = 4 ∧ body.length ≤ 20 ∧ (K, N, S, O, next, ok) = (4, 0, byB body, [], nx, true)) ∨
    (okT = true ∧ k = 4 ∧ ¬ body.length ≤ 20 ∧ (K, N, S, O, next, ok) = zeroV) ∨
    (okT = true ∧ k = 6 ∧ ∃ o, getO body = some o ∧ (K, N, S, O, next, ok) = (6, 0, ⟨#[]⟩, o, nx, true)) ∨
    (okT = true ∧ k = 6 ∧ getO body = none ∧ (K, N, S, O, next, ok) = zeroV) ∨
    (okT = true ∧ (¬ k = 2 ∧ ¬ k = 4 ∧ ¬ k = 6) ∧ (k = 5 ∨ k = 128 ∨ k = 130) ∧ body.length = 0 ∧ (K, N, S, O, next, ok) = (k, 0, ⟨#[]⟩, [], nx, true)) ∨
    (okT = true ∧ (¬ k = 2 ∧ ¬ k = 4 ∧ ¬ k = 6) ∧ ((bareOf k).isSome && ((body.length : Int) == 0)) = false ∧ (K, N, S, O, next, ok) = zeroV) := by
  rw [← hG]
  cases okT
  · exact .inl ⟨rfl, by unfold getV; rw [hT]; simp⟩
  right
  have e : getV z1 t = (match getBody k body with | some (K, N, S, z) => (K, N, S, z, nx, true) | none => zeroV) := by unfold getV; rw [hT]; simp
  rw [e]
  by_cases k2 : k = 2
  · subst k2
    cases hi : (getInt body).2
    · right; left; exact ⟨rfl, rfl, rfl, by simp [getBody, hi]⟩
    · left; exact ⟨rfl, rfl, rfl, by simp [getBody, hi]⟩
  right; right
  by_cases k4 : k = 4
  · subst k4
    by_cases hl : body.length ≤ 20
    · left; exact ⟨rfl, rfl, hl, by simp [getBody, hl]⟩
    · right; left; exact ⟨rfl, rfl, hl, by simp [getBody, hl]⟩
  right; right
  by_cases k6 : k = 6
  · subst k6
    cases ho : getO body with
    | none => right; left; exact ⟨rfl, rfl, rfl, by simp [getBody, ho]⟩
    | some o => left; exact ⟨rfl, rfl, o, rfl, by simp [getBody, ho]⟩
  right; right
  by_cases hb : (k = 5 ∨ k = 128 ∨ k = 130) ∧ body.length = 0
  · left; exact ⟨rfl, ⟨k2, k4, k6⟩, hb.1, hb.2, by simp [getBody, k2, k4, k6, hb]⟩
  · right
    refine ⟨rfl, ⟨k2, k4, k6⟩, ?_, by unfold getBody; rw [if_neg k2, if_neg k4, if_neg k6, if_neg hb]⟩
    rw [Bool.eq_false_iff]
    intro h
    simp only [Bool.and_eq_true] at h
    exact hb ⟨bare_is h.1, by have := h.2; simp at this; exact List.length_eq_zero_iff.2 this⟩

theorem implGetVal_made (a1 : Option Addr) (l1 c1 : Nat) (z1 : List Int) (t K N : Int) (S : ByteArray) (O : List Int) (next : Int) (ok : Bool) (hG : getV z1 t = (K, N, S, O, next, ok)) (w : World) (h1 : Row w a1 l1 c1 z1) (hs : l1 ≤ 1048576) :
    Calls Tryz.prog 114 #[.slice a1 l1 c1, .int .i64 t] w fun e w' => ∃ ao cap, e = .returned (.tuple #[.agg #[.int .i64 K, .int .i64 N, .string S, .slice ao O.length cap], .int .i64 next, .bool ok]) ∧
      w'.ownsRow w.heap.size 3 1 (.slice ao O.length cap) O.length (cI O) ∧ IRow w' ao O.length cap O ∧ Below w.heap.size w w' := by
  rcases hT : getTlv z1 t with ⟨k, body, nx, okT⟩
  rcases getV_ways hG hT with ⟨rfl, e⟩ | ⟨rfl, rfl, hi, e⟩ | ⟨rfl, rfl, hi, e⟩ | ⟨rfl, rfl, hl, e⟩ | ⟨rfl, rfl, hl, e⟩ | ⟨rfl, rfl, o, ho, e⟩ | ⟨rfl, rfl, ho, e⟩ | ⟨rfl, ⟨k2, k4, k6⟩, hk, hl, e⟩ | ⟨rfl, ⟨k2, k4, k6⟩, hk, e⟩
  all_goals (cases e)
  · exact implGetVal_notlv a1 l1 c1 z1 t k nx body hT w h1 hs
  · exact implGetVal_int a1 l1 c1 z1 t _ _ body hT w h1 hs (Prod.ext rfl hi)
  · exact implGetVal_noint a1 l1 c1 z1 t _ _ body hT w h1 hs (Prod.ext rfl hi)
  · exact implGetVal_text a1 l1 c1 z1 t _ body hT w h1 hs hl
  · exact implGetVal_notext a1 l1 c1 z1 t _ body hT w h1 hs hl
  · exact implGetVal_oid a1 l1 c1 z1 t _ _ body hT w h1 hs ho
  · exact implGetVal_nooid a1 l1 c1 z1 t _ body hT w h1 hs ho
  · exact implGetVal_bare a1 l1 c1 z1 t _ _ body hT w h1 hs k2 k4 k6 hk hl
  · exact implGetVal_nobare a1 l1 c1 z1 t k nx body hT w h1 hs k2 k4 k6 hk

theorem getTlv_none {z : List Int} {t k nx : Int} {body : List Int} (h : getTlv z t = (k, body, nx, false)) : k = 0 ∧ body = [] ∧ nx = 0 := by
  unfold getTlv at h
  split at h
  · cases h; exact ⟨rfl, rfl, rfl⟩
  · split at h
    · cases h
    · cases h; exact ⟨rfl, rfl, rfl⟩

theorem set_other {w : World} {g i j : Nat} {u : Value} {o : Obj} (h : w.heap[i]? = some o) (hne : g ≠ i) : (w.setCell ⟨g, j, none⟩ u).heap[i]? = some o := by
  rw [Below.heap_setCell _ _ _ _ (by intro e; exact hne e.symm)]; exact h
theorem set_one {w : World} {g : Nat} {u c0 c1 c2 c3 : Value} {t : TypeId} (h : w.heap[g]? = some (.cells #[c0, c1, c2, c3] t)) : (w.setCell ⟨g, 1, none⟩ u).heap[g]? = some (.cells #[c0, u, c2, c3] t) := by
  simp [World.setCell, Array.getElem?_modify, h]
theorem set_three {w : World} {g : Nat} {u c0 c1 c2 c3 : Value} {t : TypeId} (h : w.heap[g]? = some (.cells #[c0, c1, c2, c3] t)) : (w.setCell ⟨g, 3, none⟩ u).heap[g]? = some (.cells #[c0, c1, c2, u] t) := by
  simp [World.setCell, Array.getElem?_modify, h]

theorem int_ok {body : List Int} (hb : Byt body) {n : Int} (h : getInt body = (n, true)) : okV 2 n ⟨#[]⟩ [] = true := by
  have hb : -2147483648 ≤ n ∧ n ≤ 2147483647 := by
    unfold getInt at h
    split at h
    · cases h
    · split at h
      · cases h; exact val_bd hb _ (by omega)
      · cases h
  have hc : clip n = n := by unfold clip; rw [if_neg (by omega), if_neg (by omega)]
  simp [okV, hc]
theorem text_ok {body : List Int} : okV 4 0 (byB body) [] = decide (body.length ≤ 20) := by
  simp [okV, byB_size]
  omega
theorem oid_ok {o : List Int} (h : oidOk o = true) : okV 6 0 ⟨#[]⟩ o = true := by
  simp [okV, h]
theorem bare_ok {k : Int} (k2 : ¬ k = 2) (k4 : ¬ k = 4) (k6 : ¬ k = 6) : okV k 0 ⟨#[]⟩ [] = (bareOf k).isSome := by
  unfold okV bareOf
  rw [if_neg k2, if_neg k4, if_neg k6]
  by_cases h5 : k = 5
  · simp [h5]
  by_cases h128 : k = 128
  · simp [h128]
  by_cases h130 : k = 130
  · simp [h130]
  simp [h5, h128, h130]

set_option maxRecDepth 100000 in
set_option maxHeartbeats 1000000 in
theorem specGetVal_notlv (a1 : Option Addr) (l1 c1 : Nat) (z1 : List Int) (t : Int) (nx : Int) (body : List Int) (hT : getTlv z1 t = (0, body, nx, false)) (w : World) (h1 : Row w a1 l1 c1 z1) (hs : l1 ≤ 1048576) :
    Calls Tryz.prog 85 #[.slice a1 l1 c1, .int .i64 t] w fun e w' => ∃ ao cap, e = .returned (.tuple #[.agg #[.int .i64 0, .int .i64 0, .string ⟨#[]⟩, .slice ao ([] : List Int).length cap], .int .i64 0, .bool false]) ∧
      w'.ownsRow w.heap.size 3 1 (.slice ao ([] : List Int).length cap) ([] : List Int).length (cI ([] : List Int)) ∧ IRow w' ao ([] : List Int).length cap ([] : List Int) ∧ Below w.heap.size w w' := by
  have hbl : body.length ≤ 1048576 := by have := getTlv_length z1 t; rw [hT] at this; have := h1.size; simp at *; omega
  have HT := hide hT
  clear hT
  go_enter Tryz.func85, Tryz.ntmps85
  go_wp2_with fail
  refine (specGet_made _ _ _ z1 t 0 nx false body HT.out _ (h1.below (below_one _ _)) (by omega)).mono ?_
  rintro e w1 ⟨ao1, cp1, rfl, -, r1, hb1⟩
  have k1 := kept_block (block_last w _) hb1
  have b1 : Below w.heap.size w w1 := (below_one w _).trans (hb1.mono (below_one w _).size)
  have m1 : w.heap.size + 1 ≤ w1.heap.size := by have := hb1.size; simpa using this
  clear hb1 HT
  clear r1
  obtain ⟨⟨x0, x1, x2, x3⟩, f0, f1, f2, f3⟩ := cells4 (kept_block k1 (below_one w1 (.cells #[.int .i64 0, .int .i64 0, .string ⟨#[]⟩, .slice none 0 0] 77)))
  have b2 := b1.trans ((below_one w1 (.cells #[.int .i64 0, .int .i64 0, .string ⟨#[]⟩, .slice none 0 0] 77)).mono b1.size)
  clear k1 b1
  go_wp2
  exact bodyPost_ret (v := .tuple #[.agg #[.int .i64 0, .int .i64 0, .string ⟨#[]⟩, .slice none 0 0], .int .i64 0, .bool false]) (by simp [results, Tryz.results85, go_sem, *]) rfl ⟨none, 0, rfl, World.ownsRow_nil _ _ _ _, irow_nil _, below_set4 b2 (Nat.le_refl _) _ _ _ _⟩

set_option maxRecDepth 100000 in
set_option maxHeartbeats 1000000 in
theorem specGetVal_int (a1 : Option Addr) (l1 c1 : Nat) (z1 : List Int) (t : Int) (n : Int) (nx : Int) (body : List Int) (hT : getTlv z1 t = (2, body, nx, true)) (w : World) (h1 : Row w a1 l1 c1 z1) (hs : l1 ≤ 1048576) (hN : getInt body = (n, true)) :
    Calls Tryz.prog 85 #[.slice a1 l1 c1, .int .i64 t] w fun e w' => ∃ ao cap, e = .returned (.tuple #[.agg #[.int .i64 2, .int .i64 n, .string ⟨#[]⟩, .slice ao ([] : List Int).length cap], .int .i64 nx, .bool true]) ∧
      w'.ownsRow w.heap.size 3 1 (.slice ao ([] : List Int).length cap) ([] : List Int).length (cI ([] : List Int)) ∧ IRow w' ao ([] : List Int).length cap ([] : List Int) ∧ Below w.heap.size w w' := by
  have hbl : body.length ≤ 1048576 := by have := getTlv_length z1 t; rw [hT] at this; have := h1.size; simp at *; omega
  have hby : Byt body := by have := getTlv_byte z1 t h1.byte; rw [hT] at this; exact this
  have HOK := hide (int_ok hby hN)
  have HN := hide hN
  clear hN hby
  have HT := hide hT
  clear hT
  go_enter Tryz.func85, Tryz.ntmps85
  go_wp2_with fail
  refine (specGet_made _ _ _ z1 t 2 nx true body HT.out _ (h1.below (below_one _ _)) (by omega)).mono ?_
  rintro e w1 ⟨ao1, cp1, rfl, -, r1, hb1⟩
  have k1 := kept_block (block_last w _) hb1
  have b1 : Below w.heap.size w w1 := (below_one w _).trans (hb1.mono (below_one w _).size)
  have m1 : w.heap.size + 1 ≤ w1.heap.size := by have := hb1.size; simpa using this
  clear hb1 HT
  have b2 := b1.trans ((below_one w1 (.cells #[.int .i64 2, .int .i64 0, .string ⟨#[]⟩, .slice none 0 0] 77)).mono b1.size)
  have kz := kept_block k1 (below_one w1 (.cells #[.int .i64 2, .int .i64 0, .string ⟨#[]⟩, .slice none 0 0] 77))
  go_wp2_with fail
  refine (specGetInt_any _ _ _ body _ (r1.below (below_one _ _)) (by omega)).mono ?_
  rintro e w2 ⟨rfl, hb2⟩
  rw [HN.out]
  have kv := kept_block (block_last w1 _) hb2
  have kz := kept_block kz hb2
  have b3 := b2.trans (hb2.mono b2.size)
  obtain ⟨⟨x0, x1, x2, x3⟩, f0, f1, f2, f3⟩ := cells4 kv
  have kv := set_one (u := .int .i64 n) kv
  have kz := set_other (g := w1.heap.size) (j := 1) (u := .int .i64 n) kz (by omega)
  have b3 := below_set b3 (g := w1.heap.size) (by omega) 1 (.int .i64 n)
  clear hb2 b2 k1 b1 r1
  have KV := hide kv
  have KZ := hide kz
  clear kv kz
  go_wp2_with fail
  generalize w2.setCell ⟨w1.heap.size, 1, none⟩ (.int .i64 n) = W2 at *
  refine (specValOk_any 2 n ⟨#[]⟩ none 0 0 [] _ (irow_nil _)).mono ?_
  rintro e w3 ⟨rfl, hb3⟩
  rw [HOK.out]
  clear x0 x1 x2 x3 f0 f1 f2 f3
  obtain ⟨⟨x0, x1, x2, x3⟩, -⟩ := cells4 (kept_block KV.out hb3)
  obtain ⟨⟨y0, y1, y2, y3⟩, f0, f1, f2, f3⟩ := cells4 (kept_block KZ.out hb3)
  have b4 := b3.trans (hb3.mono b3.size)
  clear hb3 b3 KV KZ
  go_wp2
  exact bodyPost_ret (v := .tuple #[.agg #[.int .i64 2, .int .i64 n, .string ⟨#[]⟩, .slice none 0 0], .int .i64 nx, .bool true]) (by simp [results, Tryz.results85, go_sem, *]) rfl ⟨none, 0, rfl, World.ownsRow_nil _ _ _ _, irow_nil _, below_set4 b4 (Nat.le_refl _) _ _ _ _⟩

set_option maxRecDepth 100000 in
set_option maxHeartbeats 1000000 in
theorem specGetVal_noint (a1 : Option Addr) (l1 c1 : Nat) (z1 : List Int) (t : Int) (n : Int) (nx : Int) (body : List Int) (hT : getTlv z1 t = (2, body, nx, true)) (w : World) (h1 : Row w a1 l1 c1 z1) (hs : l1 ≤ 1048576) (hN : getInt body = (n, false)) :
    Calls Tryz.prog 85 #[.slice a1 l1 c1, .int .i64 t] w fun e w' => ∃ ao cap, e = .returned (.tuple #[.agg #[.int .i64 0, .int .i64 0, .string ⟨#[]⟩, .slice ao ([] : List Int).length cap], .int .i64 0, .bool false]) ∧
      w'.ownsRow w.heap.size 3 1 (.slice ao ([] : List Int).length cap) ([] : List Int).length (cI ([] : List Int)) ∧ IRow w' ao ([] : List Int).length cap ([] : List Int) ∧ Below w.heap.size w w' := by
  have hbl : body.length ≤ 1048576 := by have := getTlv_length z1 t; rw [hT] at this; have := h1.size; simp at *; omega
  have HN := hide hN
  clear hN
  have HT := hide hT
  clear hT
  go_enter Tryz.func85, Tryz.ntmps85
  go_wp2_with fail
  refine (specGet_made _ _ _ z1 t 2 nx true body HT.out _ (h1.below (below_one _ _)) (by omega)).mono ?_
  rintro e w1 ⟨ao1, cp1, rfl, -, r1, hb1⟩
  have k1 := kept_block (block_last w _) hb1
  have b1 : Below w.heap.size w w1 := (below_one w _).trans (hb1.mono (below_one w _).size)
  have m1 : w.heap.size + 1 ≤ w1.heap.size := by have := hb1.size; simpa using this
  clear hb1 HT
  have b2 := b1.trans ((below_one w1 (.cells #[.int .i64 2, .int .i64 0, .string ⟨#[]⟩, .slice none 0 0] 77)).mono b1.size)
  have kz := kept_block k1 (below_one w1 (.cells #[.int .i64 2, .int .i64 0, .string ⟨#[]⟩, .slice none 0 0] 77))
  go_wp2_with fail
  refine (specGetInt_any _ _ _ body _ (r1.below (below_one _ _)) (by omega)).mono ?_
  rintro e w2 ⟨rfl, hb2⟩
  rw [HN.out]
  have kv := kept_block (block_last w1 _) hb2
  have kz := kept_block kz hb2
  have b3 := b2.trans (hb2.mono b2.size)
  obtain ⟨⟨x0, x1, x2, x3⟩, f0, f1, f2, f3⟩ := cells4 kv
  have kv := set_one (u := .int .i64 n) kv
  have kz := set_other (g := w1.heap.size) (j := 1) (u := .int .i64 n) kz (by omega)
  have b3 := below_set b3 (g := w1.heap.size) (by omega) 1 (.int .i64 n)
  clear hb2 b2 k1 b1 r1
  obtain ⟨⟨y0, y1, y2, y3⟩, d0, d1, d2, d3⟩ := cells4 kz
  clear kz kv
  go_wp2
  exact bodyPost_ret (v := .tuple #[.agg #[.int .i64 0, .int .i64 0, .string ⟨#[]⟩, .slice none 0 0], .int .i64 0, .bool false]) (by simp [results, Tryz.results85, go_sem, *]) rfl ⟨none, 0, rfl, World.ownsRow_nil _ _ _ _, irow_nil _, below_set4 b3 (Nat.le_refl _) _ _ _ _⟩

set_option maxRecDepth 100000 in
set_option maxHeartbeats 1000000 in
theorem specGetVal_text (a1 : Option Addr) (l1 c1 : Nat) (z1 : List Int) (t : Int) (nx : Int) (body : List Int) (hT : getTlv z1 t = (4, body, nx, true)) (w : World) (h1 : Row w a1 l1 c1 z1) (hs : l1 ≤ 1048576) (hL : body.length ≤ 20) :
    Calls Tryz.prog 85 #[.slice a1 l1 c1, .int .i64 t] w fun e w' => ∃ ao cap, e = .returned (.tuple #[.agg #[.int .i64 4, .int .i64 0, .string (byB body), .slice ao ([] : List Int).length cap], .int .i64 nx, .bool true]) ∧
      w'.ownsRow w.heap.size 3 1 (.slice ao ([] : List Int).length cap) ([] : List Int).length (cI ([] : List Int)) ∧ IRow w' ao ([] : List Int).length cap ([] : List Int) ∧ Below w.heap.size w w' := by
  have hbl : body.length ≤ 1048576 := by have := getTlv_length z1 t; rw [hT] at this; have := h1.size; simp at *; omega
  have hok : okV 4 0 (byB body) [] = true := by rw [text_ok]; exact decide_eq_true hL
  generalize hSB : byB body = S at *
  have HS := hide hSB
  have HOK := hide hok
  clear hSB hok
  have HT := hide hT
  clear hT
  go_enter Tryz.func85, Tryz.ntmps85
  go_wp2_with fail
  refine (specGet_made _ _ _ z1 t 4 nx true body HT.out _ (h1.below (below_one _ _)) (by omega)).mono ?_
  rintro e w1 ⟨ao1, cp1, rfl, -, r1, hb1⟩
  have k1 := kept_block (block_last w _) hb1
  have b1 : Below w.heap.size w w1 := (below_one w _).trans (hb1.mono (below_one w _).size)
  have m1 : w.heap.size + 1 ≤ w1.heap.size := by have := hb1.size; simpa using this
  clear hb1 HT
  have hcv := conv_row 9 (w1.alloc (.cells #[.int .i64 4, .int .i64 0, .string ⟨#[]⟩, .slice none 0 0] 77)) ao1 body.length cp1 body (r1.below (below_one _ _)) Tryz.underlying9
  rw [HS.out] at hcv
  have kv := block_last w1 (.cells #[.int .i64 4, .int .i64 0, .string S, .slice none 0 0] 77)
  have kz := kept_block k1 (below_one w1 (.cells #[.int .i64 4, .int .i64 0, .string S, .slice none 0 0] 77))
  have b2 := b1.trans ((below_one w1 (.cells #[.int .i64 4, .int .i64 0, .string S, .slice none 0 0] 77)).mono b1.size)
  have KV := hide kv
  have KZ := hide kz
  clear kv kz k1 b1 r1
  go_wp2_with fail
  generalize w1.alloc (.cells #[.int .i64 4, .int .i64 0, .string S, .slice none 0 0] 77) = W2 at *
  refine (specValOk_any 4 0 S none 0 0 [] _ (irow_nil _)).mono ?_
  rintro e w3 ⟨rfl, hb3⟩
  rw [HOK.out]
  obtain ⟨⟨x0, x1, x2, x3⟩, -⟩ := cells4 (kept_block KV.out hb3)
  obtain ⟨⟨y0, y1, y2, y3⟩, f0, f1, f2, f3⟩ := cells4 (kept_block KZ.out hb3)
  have b4 := b2.trans (hb3.mono b2.size)
  clear hb3 b2 KV KZ
  go_wp2
  exact bodyPost_ret (v := .tuple #[.agg #[.int .i64 4, .int .i64 0, .string S, .slice none 0 0], .int .i64 nx, .bool true]) (by simp [results, Tryz.results85, go_sem, *]) rfl ⟨none, 0, rfl, World.ownsRow_nil _ _ _ _, irow_nil _, below_set4 b4 (Nat.le_refl _) _ _ _ _⟩

set_option maxRecDepth 100000 in
set_option maxHeartbeats 1000000 in
theorem specGetVal_notext (a1 : Option Addr) (l1 c1 : Nat) (z1 : List Int) (t : Int) (nx : Int) (body : List Int) (hT : getTlv z1 t = (4, body, nx, true)) (w : World) (h1 : Row w a1 l1 c1 z1) (hs : l1 ≤ 1048576) (hL : ¬ body.length ≤ 20) :
    Calls Tryz.prog 85 #[.slice a1 l1 c1, .int .i64 t] w fun e w' => ∃ ao cap, e = .returned (.tuple #[.agg #[.int .i64 0, .int .i64 0, .string ⟨#[]⟩, .slice ao ([] : List Int).length cap], .int .i64 0, .bool false]) ∧
      w'.ownsRow w.heap.size 3 1 (.slice ao ([] : List Int).length cap) ([] : List Int).length (cI ([] : List Int)) ∧ IRow w' ao ([] : List Int).length cap ([] : List Int) ∧ Below w.heap.size w w' := by
  have hbl : body.length ≤ 1048576 := by have := getTlv_length z1 t; rw [hT] at this; have := h1.size; simp at *; omega
  have hok : okV 4 0 (byB body) [] = false := by rw [text_ok]; exact decide_eq_false hL
  generalize hSB : byB body = S at *
  have HS := hide hSB
  have HOK := hide hok
  clear hSB hok
  have HT := hide hT
  clear hT
  go_enter Tryz.func85, Tryz.ntmps85
  go_wp2_with fail
  refine (specGet_made _ _ _ z1 t 4 nx true body HT.out _ (h1.below (below_one _ _)) (by omega)).mono ?_
  rintro e w1 ⟨ao1, cp1, rfl, -, r1, hb1⟩
  have k1 := kept_block (block_last w _) hb1
  have b1 : Below w.heap.size w w1 := (below_one w _).trans (hb1.mono (below_one w _).size)
  have m1 : w.heap.size + 1 ≤ w1.heap.size := by have := hb1.size; simpa using this
  clear hb1 HT
  have hcv := conv_row 9 (w1.alloc (.cells #[.int .i64 4, .int .i64 0, .string ⟨#[]⟩, .slice none 0 0] 77)) ao1 body.length cp1 body (r1.below (below_one _ _)) Tryz.underlying9
  rw [HS.out] at hcv
  have kv := block_last w1 (.cells #[.int .i64 4, .int .i64 0, .string S, .slice none 0 0] 77)
  have kz := kept_block k1 (below_one w1 (.cells #[.int .i64 4, .int .i64 0, .string S, .slice none 0 0] 77))
  have b2 := b1.trans ((below_one w1 (.cells #[.int .i64 4, .int .i64 0, .string S, .slice none 0 0] 77)).mono b1.size)
  have KV := hide kv
  have KZ := hide kz
  clear kv kz k1 b1 r1
  go_wp2_with fail
  generalize w1.alloc (.cells #[.int .i64 4, .int .i64 0, .string S, .slice none 0 0] 77) = W2 at *
  refine (specValOk_any 4 0 S none 0 0 [] _ (irow_nil _)).mono ?_
  rintro e w3 ⟨rfl, hb3⟩
  rw [HOK.out]
  obtain ⟨⟨x0, x1, x2, x3⟩, -⟩ := cells4 (kept_block KV.out hb3)
  obtain ⟨⟨y0, y1, y2, y3⟩, f0, f1, f2, f3⟩ := cells4 (kept_block KZ.out hb3)
  have b4 := b2.trans (hb3.mono b2.size)
  clear hb3 b2 KV KZ
  go_wp2
  exact bodyPost_ret (v := .tuple #[.agg #[.int .i64 0, .int .i64 0, .string ⟨#[]⟩, .slice none 0 0], .int .i64 0, .bool false]) (by simp [results, Tryz.results85, go_sem, *]) rfl ⟨none, 0, rfl, World.ownsRow_nil _ _ _ _, irow_nil _, below_set4 b4 (Nat.le_refl _) _ _ _ _⟩

set_option maxRecDepth 100000 in
set_option maxHeartbeats 1000000 in
theorem specGetVal_oid (a1 : Option Addr) (l1 c1 : Nat) (z1 : List Int) (t : Int) (O : List Int) (nx : Int) (body : List Int) (hT : getTlv z1 t = (6, body, nx, true)) (w : World) (h1 : Row w a1 l1 c1 z1) (hs : l1 ≤ 1048576) (hO : getO body = some O) :
    Calls Tryz.prog 85 #[.slice a1 l1 c1, .int .i64 t] w fun e w' => ∃ ao cap, e = .returned (.tuple #[.agg #[.int .i64 6, .int .i64 0, .string ⟨#[]⟩, .slice ao O.length cap], .int .i64 nx, .bool true]) ∧
      w'.ownsRow w.heap.size 3 1 (.slice ao O.length cap) O.length (cI O) ∧ IRow w' ao O.length cap O ∧ Below w.heap.size w w' := by
  have hbl : body.length ≤ 1048576 := by have := getTlv_length z1 t; rw [hT] at this; have := h1.size; simp at *; omega
  have HOK := hide (oid_ok (getO_is hO).1)
  have HO := hide hO
  clear hO
  have HT := hide hT
  clear hT
  go_enter Tryz.func85, Tryz.ntmps85
  go_wp2_with fail
  refine (specGet_made _ _ _ z1 t 6 nx true body HT.out _ (h1.below (below_one _ _)) (by omega)).mono ?_
  rintro e w1 ⟨ao1, cp1, rfl, -, r1, hb1⟩
  have k1 := kept_block (block_last w _) hb1
  have b1 : Below w.heap.size w w1 := (below_one w _).trans (hb1.mono (below_one w _).size)
  have m1 : w.heap.size + 1 ≤ w1.heap.size := by have := hb1.size; simpa using this
  clear hb1 HT
  have b2 := b1.trans ((below_one w1 (.cells #[.int .i64 6, .int .i64 0, .string ⟨#[]⟩, .slice none 0 0] 77)).mono b1.size)
  have kz := kept_block k1 (below_one w1 (.cells #[.int .i64 6, .int .i64 0, .string ⟨#[]⟩, .slice none 0 0] 77))
  go_wp2_with fail
  refine (specGet_row _ _ _ body O true (by rw [HO.out]; rfl) (by rw [HO.out]; rfl) _ (r1.below (below_one _ _)) (by omega)).mono ?_
  rintro e w2 ⟨ao2, cp2, rfl, ho2, r2, hb2⟩
  have kv := kept_block (block_last w1 _) hb2
  have kz := kept_block kz hb2
  have b3 := b2.trans (hb2.mono b2.size)
  have m2 : w1.heap.size + 1 ≤ w2.heap.size := by have := hb2.size; simpa using this
  obtain ⟨⟨x0, x1, x2, x3⟩, f0, f1, f2, f3⟩ := cells4 kv
  have kv := set_three (u := .slice ao2 O.length cp2) kv
  have kz := set_other (g := w1.heap.size) (j := 3) (u := .slice ao2 O.length cp2) kz (by omega)
  have b3 := below_set b3 (g := w1.heap.size) (by omega) 3 (.slice ao2 O.length cp2)
  have o3 := own_set (own_lt ho2 (base' := w1.heap.size + 1) (by simp)) (g := w1.heap.size) (j := 3) (u := .slice ao2 O.length cp2) (by omega)
  have hbo := r2.byte
  clear hb2 b2 k1 b1 r1 ho2 r2
  have KV := hide kv
  have KZ := hide kz
  have HO3 := hide o3
  clear kv kz o3
  go_wp2_with fail
  generalize w2.setCell ⟨w1.heap.size, 3, none⟩ (.slice ao2 O.length cp2) = W2 at *
  refine (specValOk_any 6 0 ⟨#[]⟩ ao2 O.length cp2 O _ (irow_own HO3.out hbo)).mono ?_
  rintro e w3 ⟨rfl, hb3⟩
  rw [HOK.out]
  clear x0 x1 x2 x3 f0 f1 f2 f3
  obtain ⟨⟨x0, x1, x2, x3⟩, -⟩ := cells4 (kept_block KV.out hb3)
  obtain ⟨⟨y0, y1, y2, y3⟩, f0, f1, f2, f3⟩ := cells4 (kept_block KZ.out hb3)
  have b4 := b3.trans (hb3.mono b3.size)
  have HO4 := hide (own_lt (own_below HO3.out hb3) (base' := w.heap.size + 1) (by omega))
  clear hb3 b3 KV KZ HO3
  go_wp2
  have o5 := own_set4 HO4.out (g := w.heap.size) (by omega) (.int .i64 6) (.int .i64 0) (.string ⟨#[]⟩) (.slice ao2 O.length cp2)
  exact bodyPost_ret (v := .tuple #[.agg #[.int .i64 6, .int .i64 0, .string ⟨#[]⟩, .slice ao2 O.length cp2], .int .i64 nx, .bool true]) (by simp [results, Tryz.results85, go_sem, *]) rfl ⟨ao2, cp2, rfl, own_lt o5 (by omega), irow_own o5 hbo, below_set4 b4 (Nat.le_refl _) _ _ _ _⟩

set_option maxRecDepth 100000 in
set_option maxHeartbeats 1000000 in
theorem specGetVal_nooid (a1 : Option Addr) (l1 c1 : Nat) (z1 : List Int) (t : Int) (nx : Int) (body : List Int) (hT : getTlv z1 t = (6, body, nx, true)) (w : World) (h1 : Row w a1 l1 c1 z1) (hs : l1 ≤ 1048576) (hO : getO body = none) :
    Calls Tryz.prog 85 #[.slice a1 l1 c1, .int .i64 t] w fun e w' => ∃ ao cap, e = .returned (.tuple #[.agg #[.int .i64 0, .int .i64 0, .string ⟨#[]⟩, .slice ao ([] : List Int).length cap], .int .i64 0, .bool false]) ∧
      w'.ownsRow w.heap.size 3 1 (.slice ao ([] : List Int).length cap) ([] : List Int).length (cI ([] : List Int)) ∧ IRow w' ao ([] : List Int).length cap ([] : List Int) ∧ Below w.heap.size w w' := by
  have hbl : body.length ≤ 1048576 := by have := getTlv_length z1 t; rw [hT] at this; have := h1.size; simp at *; omega
  have HO := hide hO
  clear hO
  have HT := hide hT
  clear hT
  go_enter Tryz.func85, Tryz.ntmps85
  go_wp2_with fail
  refine (specGet_made _ _ _ z1 t 6 nx true body HT.out _ (h1.below (below_one _ _)) (by omega)).mono ?_
  rintro e w1 ⟨ao1, cp1, rfl, -, r1, hb1⟩
  have k1 := kept_block (block_last w _) hb1
  have b1 : Below w.heap.size w w1 := (below_one w _).trans (hb1.mono (below_one w _).size)
  have m1 : w.heap.size + 1 ≤ w1.heap.size := by have := hb1.size; simpa using this
  clear hb1 HT
  have b2 := b1.trans ((below_one w1 (.cells #[.int .i64 6, .int .i64 0, .string ⟨#[]⟩, .slice none 0 0] 77)).mono b1.size)
  have kz := kept_block k1 (below_one w1 (.cells #[.int .i64 6, .int .i64 0, .string ⟨#[]⟩, .slice none 0 0] 77))
  go_wp2_with fail
  refine (specGet_row _ _ _ body ([] : List Int) false (by rw [HO.out]; rfl) (by rw [HO.out]; rfl) _ (r1.below (below_one _ _)) (by omega)).mono ?_
  rintro e w2 ⟨ao2, cp2, rfl, ho2, r2, hb2⟩
  have kv := kept_block (block_last w1 _) hb2
  have kz := kept_block kz hb2
  have b3 := b2.trans (hb2.mono b2.size)
  have m2 : w1.heap.size + 1 ≤ w2.heap.size := by have := hb2.size; simpa using this
  obtain ⟨⟨x0, x1, x2, x3⟩, f0, f1, f2, f3⟩ := cells4 kv
  have kv := set_three (u := .slice ao2 0 cp2) kv
  have kz := set_other (g := w1.heap.size) (j := 3) (u := .slice ao2 0 cp2) kz (by omega)
  have b3 := below_set b3 (g := w1.heap.size) (by omega) 3 (.slice ao2 0 cp2)
  clear hb2 b2 k1 b1 r1 ho2 r2
  obtain ⟨⟨y0, y1, y2, y3⟩, d0, d1, d2, d3⟩ := cells4 kz
  clear kz kv
  go_wp2
  exact bodyPost_ret (v := .tuple #[.agg #[.int .i64 0, .int .i64 0, .string ⟨#[]⟩, .slice none 0 0], .int .i64 0, .bool false]) (by simp [results, Tryz.results85, go_sem, *]) rfl ⟨none, 0, rfl, World.ownsRow_nil _ _ _ _, irow_nil _, below_set4 b3 (Nat.le_refl _) _ _ _ _⟩

set_option maxRecDepth 100000 in
set_option maxHeartbeats 1000000 in
theorem specGetVal_bare (a1 : Option Addr) (l1 c1 : Nat) (z1 : List Int) (t : Int) (k : Int) (nx : Int) (body : List Int) (hT : getTlv z1 t = (k, body, nx, true)) (w : World) (h1 : Row w a1 l1 c1 z1) (hs : l1 ≤ 1048576) (k2 : (k == 2) = false) (k4 : (k == 4) = false) (k6 : (k == 6) = false) (hK : (bareOf k).isSome = true) (hL : ((body.length : Int) == 0) = true) :
    Calls Tryz.prog 85 #[.slice a1 l1 c1, .int .i64 t] w fun e w' => ∃ ao cap, e = .returned (.tuple #[.agg #[.int .i64 k, .int .i64 0, .string ⟨#[]⟩, .slice ao ([] : List Int).length cap], .int .i64 nx, .bool true]) ∧
      w'.ownsRow w.heap.size 3 1 (.slice ao ([] : List Int).length cap) ([] : List Int).length (cI ([] : List Int)) ∧ IRow w' ao ([] : List Int).length cap ([] : List Int) ∧ Below w.heap.size w w' := by
  have hbl : body.length ≤ 1048576 := by have := getTlv_length z1 t; rw [hT] at this; have := h1.size; simp at *; omega
  have HOK := hide (show okV k 0 ⟨#[]⟩ [] = true by rw [bare_ok (by simpa using k2) (by simpa using k4) (by simpa using k6)]; exact hK)
  clear hK
  have HT := hide hT
  clear hT
  go_enter Tryz.func85, Tryz.ntmps85
  go_wp2_with fail
  refine (specGet_made _ _ _ z1 t k nx true body HT.out _ (h1.below (below_one _ _)) (by omega)).mono ?_
  rintro e w1 ⟨ao1, cp1, rfl, -, r1, hb1⟩
  have k1 := kept_block (block_last w _) hb1
  have b1 : Below w.heap.size w w1 := (below_one w _).trans (hb1.mono (below_one w _).size)
  have m1 : w.heap.size + 1 ≤ w1.heap.size := by have := hb1.size; simpa using this
  clear hb1 HT
  have kv := block_last w1 (.cells #[.int .i64 k, .int .i64 0, .string ⟨#[]⟩, .slice none 0 0] 77)
  have kz := kept_block k1 (below_one w1 (.cells #[.int .i64 k, .int .i64 0, .string ⟨#[]⟩, .slice none 0 0] 77))
  have b2 := b1.trans ((below_one w1 (.cells #[.int .i64 k, .int .i64 0, .string ⟨#[]⟩, .slice none 0 0] 77)).mono b1.size)
  have KV := hide kv
  have KZ := hide kz
  clear kv kz k1 b1 r1
  go_wp2_with fail
  generalize w1.alloc (.cells #[.int .i64 k, .int .i64 0, .string ⟨#[]⟩, .slice none 0 0] 77) = W2 at *
  refine (specValOk_any k 0 ⟨#[]⟩ none 0 0 [] _ (irow_nil _)).mono ?_
  rintro e w3 ⟨rfl, hb3⟩
  rw [HOK.out]
  obtain ⟨⟨x0, x1, x2, x3⟩, -⟩ := cells4 (kept_block KV.out hb3)
  obtain ⟨⟨y0, y1, y2, y3⟩, f0, f1, f2, f3⟩ := cells4 (kept_block KZ.out hb3)
  have b4 := b2.trans (hb3.mono b2.size)
  clear hb3 b2 KV KZ
  go_wp2
  exact bodyPost_ret (v := .tuple #[.agg #[.int .i64 k, .int .i64 0, .string ⟨#[]⟩, .slice none 0 0], .int .i64 nx, .bool true]) (by simp [results, Tryz.results85, go_sem, *]) rfl ⟨none, 0, rfl, World.ownsRow_nil _ _ _ _, irow_nil _, below_set4 b4 (Nat.le_refl _) _ _ _ _⟩

set_option maxRecDepth 100000 in
set_option maxHeartbeats 1000000 in
theorem specGetVal_nokind (a1 : Option Addr) (l1 c1 : Nat) (z1 : List Int) (t : Int) (k : Int) (nx : Int) (body : List Int) (hT : getTlv z1 t = (k, body, nx, true)) (w : World) (h1 : Row w a1 l1 c1 z1) (hs : l1 ≤ 1048576) (k2 : (k == 2) = false) (k4 : (k == 4) = false) (k6 : (k == 6) = false) (hK : (bareOf k).isSome = false) (hL : ((body.length : Int) == 0) = true) :
    Calls Tryz.prog 85 #[.slice a1 l1 c1, .int .i64 t] w fun e w' => ∃ ao cap, e = .returned (.tuple #[.agg #[.int .i64 0, .int .i64 0, .string ⟨#[]⟩, .slice ao ([] : List Int).length cap], .int .i64 0, .bool false]) ∧
      w'.ownsRow w.heap.size 3 1 (.slice ao ([] : List Int).length cap) ([] : List Int).length (cI ([] : List Int)) ∧ IRow w' ao ([] : List Int).length cap ([] : List Int) ∧ Below w.heap.size w w' := by
  have hbl : body.length ≤ 1048576 := by have := getTlv_length z1 t; rw [hT] at this; have := h1.size; simp at *; omega
  have HOK := hide (show okV k 0 ⟨#[]⟩ [] = false by rw [bare_ok (by simpa using k2) (by simpa using k4) (by simpa using k6)]; exact hK)
  clear hK
  have HT := hide hT
  clear hT
  go_enter Tryz.func85, Tryz.ntmps85
  go_wp2_with fail
  refine (specGet_made _ _ _ z1 t k nx true body HT.out _ (h1.below (below_one _ _)) (by omega)).mono ?_
  rintro e w1 ⟨ao1, cp1, rfl, -, r1, hb1⟩
  have k1 := kept_block (block_last w _) hb1
  have b1 : Below w.heap.size w w1 := (below_one w _).trans (hb1.mono (below_one w _).size)
  have m1 : w.heap.size + 1 ≤ w1.heap.size := by have := hb1.size; simpa using this
  clear hb1 HT
  have kv := block_last w1 (.cells #[.int .i64 k, .int .i64 0, .string ⟨#[]⟩, .slice none 0 0] 77)
  have kz := kept_block k1 (below_one w1 (.cells #[.int .i64 k, .int .i64 0, .string ⟨#[]⟩, .slice none 0 0] 77))
  have b2 := b1.trans ((below_one w1 (.cells #[.int .i64 k, .int .i64 0, .string ⟨#[]⟩, .slice none 0 0] 77)).mono b1.size)
  have KV := hide kv
  have KZ := hide kz
  clear kv kz k1 b1 r1
  go_wp2_with fail
  generalize w1.alloc (.cells #[.int .i64 k, .int .i64 0, .string ⟨#[]⟩, .slice none 0 0] 77) = W2 at *
  refine (specValOk_any k 0 ⟨#[]⟩ none 0 0 [] _ (irow_nil _)).mono ?_
  rintro e w3 ⟨rfl, hb3⟩
  rw [HOK.out]
  obtain ⟨⟨x0, x1, x2, x3⟩, -⟩ := cells4 (kept_block KV.out hb3)
  obtain ⟨⟨y0, y1, y2, y3⟩, f0, f1, f2, f3⟩ := cells4 (kept_block KZ.out hb3)
  have b4 := b2.trans (hb3.mono b2.size)
  clear hb3 b2 KV KZ
  go_wp2
  exact bodyPost_ret (v := .tuple #[.agg #[.int .i64 0, .int .i64 0, .string ⟨#[]⟩, .slice none 0 0], .int .i64 0, .bool false]) (by simp [results, Tryz.results85, go_sem, *]) rfl ⟨none, 0, rfl, World.ownsRow_nil _ _ _ _, irow_nil _, below_set4 b4 (Nat.le_refl _) _ _ _ _⟩

set_option maxRecDepth 100000 in
set_option maxHeartbeats 1000000 in
theorem specGetVal_nobody (a1 : Option Addr) (l1 c1 : Nat) (z1 : List Int) (t : Int) (k : Int) (nx : Int) (body : List Int) (hT : getTlv z1 t = (k, body, nx, true)) (w : World) (h1 : Row w a1 l1 c1 z1) (hs : l1 ≤ 1048576) (k2 : (k == 2) = false) (k4 : (k == 4) = false) (k6 : (k == 6) = false) (hL : ((body.length : Int) == 0) = false) :
    Calls Tryz.prog 85 #[.slice a1 l1 c1, .int .i64 t] w fun e w' => ∃ ao cap, e = .returned (.tuple #[.agg #[.int .i64 0, .int .i64 0, .string ⟨#[]⟩, .slice ao ([] : List Int).length cap], .int .i64 0, .bool false]) ∧
      w'.ownsRow w.heap.size 3 1 (.slice ao ([] : List Int).length cap) ([] : List Int).length (cI ([] : List Int)) ∧ IRow w' ao ([] : List Int).length cap ([] : List Int) ∧ Below w.heap.size w w' := by
  have hbl : body.length ≤ 1048576 := by have := getTlv_length z1 t; rw [hT] at this; have := h1.size; simp at *; omega
  have HT := hide hT
  clear hT
  go_enter Tryz.func85, Tryz.ntmps85
  go_wp2_with fail
  refine (specGet_made _ _ _ z1 t k nx true body HT.out _ (h1.below (below_one _ _)) (by omega)).mono ?_
  rintro e w1 ⟨ao1, cp1, rfl, -, r1, hb1⟩
  have k1 := kept_block (block_last w _) hb1
  have b1 : Below w.heap.size w w1 := (below_one w _).trans (hb1.mono (below_one w _).size)
  have m1 : w.heap.size + 1 ≤ w1.heap.size := by have := hb1.size; simpa using this
  clear hb1 HT
  clear r1
  obtain ⟨⟨x0, x1, x2, x3⟩, f0, f1, f2, f3⟩ := cells4 (kept_block k1 (below_one w1 (.cells #[.int .i64 k, .int .i64 0, .string ⟨#[]⟩, .slice none 0 0] 77)))
  have b2 := b1.trans ((below_one w1 (.cells #[.int .i64 k, .int .i64 0, .string ⟨#[]⟩, .slice none 0 0] 77)).mono b1.size)
  clear k1 b1
  go_wp2
  exact bodyPost_ret (v := .tuple #[.agg #[.int .i64 0, .int .i64 0, .string ⟨#[]⟩, .slice none 0 0], .int .i64 0, .bool false]) (by simp [results, Tryz.results85, go_sem, *]) rfl ⟨none, 0, rfl, World.ownsRow_nil _ _ _ _, irow_nil _, below_set4 b2 (Nat.le_refl _) _ _ _ _⟩

theorem specGetVal_made (a1 : Option Addr) (l1 c1 : Nat) (z1 : List Int) (t K N : Int) (S : ByteArray) (O : List Int) (next : Int) (ok : Bool) (hG : getV z1 t = (K, N, S, O, next, ok)) (w : World) (h1 : Row w a1 l1 c1 z1) (hs : l1 ≤ 1048576) :
    Calls Tryz.prog 85 #[.slice a1 l1 c1, .int .i64 t] w fun e w' => ∃ ao cap, e = .returned (.tuple #[.agg #[.int .i64 K, .int .i64 N, .string S, .slice ao O.length cap], .int .i64 next, .bool ok]) ∧
      w'.ownsRow w.heap.size 3 1 (.slice ao O.length cap) O.length (cI O) ∧ IRow w' ao O.length cap O ∧ Below w.heap.size w w' := by
  rcases hT : getTlv z1 t with ⟨k, body, nx, okT⟩
  rcases getV_ways hG hT with ⟨rfl, e⟩ | ⟨rfl, rfl, hi, e⟩ | ⟨rfl, rfl, hi, e⟩ | ⟨rfl, rfl, hl, e⟩ | ⟨rfl, rfl, hl, e⟩ | ⟨rfl, rfl, o, ho, e⟩ | ⟨rfl, rfl, ho, e⟩ | ⟨rfl, ⟨k2, k4, k6⟩, hk, hl, e⟩ | ⟨rfl, ⟨k2, k4, k6⟩, hk, e⟩
  all_goals (cases e)
  · obtain ⟨rfl, rfl, rfl⟩ := getTlv_none hT
    exact specGetVal_notlv a1 l1 c1 z1 t _ _ hT w h1 hs
  · exact specGetVal_int a1 l1 c1 z1 t _ _ body hT w h1 hs (Prod.ext rfl hi)
  · exact specGetVal_noint a1 l1 c1 z1 t _ _ body hT w h1 hs (Prod.ext rfl hi)
  · exact specGetVal_text a1 l1 c1 z1 t _ body hT w h1 hs hl
  · exact specGetVal_notext a1 l1 c1 z1 t _ body hT w h1 hs hl
  · exact specGetVal_oid a1 l1 c1 z1 t _ _ body hT w h1 hs ho
  · exact specGetVal_nooid a1 l1 c1 z1 t _ body hT w h1 hs ho
  · exact specGetVal_bare a1 l1 c1 z1 t _ _ body hT w h1 hs (by simpa using k2) (by simpa using k4) (by simpa using k6) (by obtain ⟨x, hx, _⟩ := bare_some hk; rw [hx]; rfl) (by rw [hl]; rfl)
  · have k2' : (k == 2) = false := by simpa using k2
    have k4' : (k == 4) = false := by simpa using k4
    have k6' : (k == 6) = false := by simpa using k6
    cases hL : ((body.length : Int) == 0)
    · exact specGetVal_nobody a1 l1 c1 z1 t k nx body hT w h1 hs k2' k4' k6' hL
    · exact specGetVal_nokind a1 l1 c1 z1 t k nx body hT w h1 hs k2' k4' k6' (by rw [hL, Bool.and_true] at hk; exact hk) hL

theorem empty_text {S : ByteArray} (h : S.toList.isEmpty = true) : S = ⟨#[]⟩ := by
  rw [ByteArray.toList_eq] at h
  obtain ⟨⟨l⟩⟩ := S
  cases l with
  | nil => rfl
  | cons x r => simp at h

/-- The kinds of what is right. -/
theorem okV_ways {K N : Int} {S : ByteArray} {z : List Int} (h : okV K N S z = true) :
    ((K = 5 ∨ K = 128 ∨ K = 130) ∧ N = 0 ∧ S = ⟨#[]⟩ ∧ z = []) ∨ (K = 2 ∧ clip N = N ∧ S = ⟨#[]⟩ ∧ z = []) ∨ (K = 4 ∧ S.size ≤ 20 ∧ N = 0 ∧ z = []) ∨ (K = 6 ∧ oidOk z = true ∧ N = 0 ∧ S = ⟨#[]⟩) := by
  unfold okV at h
  split at h
  · simp only [Bool.and_eq_true, decide_eq_true_eq, beq_iff_eq] at h
    exact .inl ⟨‹_›, h.1, empty_text h.2.1, h.2.2⟩
  · split at h
    · simp only [Bool.and_eq_true, decide_eq_true_eq, beq_iff_eq] at h
      exact .inr (.inl ⟨‹_›, h.1, empty_text h.2.1, h.2.2⟩)
    · split at h
      · simp only [Bool.and_eq_true, decide_eq_true_eq, beq_iff_eq] at h
        exact .inr (.inr (.inl ⟨‹_›, by omega, h.2.1, h.2.2⟩))
      · split at h
        · simp only [Bool.and_eq_true, beq_iff_eq] at h
          exact .inr (.inr (.inr ⟨‹_›, h.1, h.2.1, empty_text h.2.2⟩))
        · cases h

theorem getV_of {zs : List Int} {t k nx : Int} {body : List Int} {K N : Int} {S : ByteArray} {z : List Int} (hT : getTlv zs t = (k, body, nx, true)) (hB : getBody k body = some (K, N, S, z)) : getV zs t = (K, N, S, z, nx, true) := by
  unfold getV
  rw [hT]
  simp [hB]

/-- What is put comes back. -/
theorem val_back (b : List Int) {K N : Int} {S : ByteArray} {z : List Int} (h : okV K N S z = true) : getV (putV b K N S z) b.length = (K, N, S, z, ((putV b K N S z).length : Int), true) := by
  have hP : putV b K N S z = putTlv b K (bodyV K N S z) := by simp [putV, h]
  have hs := body_small h
  rw [hP]
  rcases okV_ways h with ⟨hk, rfl, rfl, rfl⟩ | ⟨rfl, hc, rfl, rfl⟩ | ⟨rfl, hl, rfl, rfl⟩ | ⟨rfl, ho, rfl, rfl⟩
  · have hb : bodyV K 0 ⟨#[]⟩ [] = [] := by unfold bodyV; rw [if_neg (by omega), if_neg (by omega), if_neg (by omega)]
    rw [hb]
    refine getV_of (tlv_back b K [] (by simp; omega)) ?_
    unfold getBody
    rw [if_neg (by omega), if_neg (by omega), if_neg (by omega), if_pos ⟨hk, rfl⟩]
  · refine getV_of (tlv_back b 2 _ (by omega)) ?_
    have hb : bodyV 2 N ⟨#[]⟩ [] = putInt N := by simp [bodyV]
    rw [hb]
    simp [getBody, int_back, hc]
  · refine getV_of (tlv_back b 4 _ (by omega)) ?_
    have hb : bodyV 4 0 S [] = strB S := by simp [bodyV]
    rw [hb]
    simp [getBody, strB_length, hl, byB_strB]
  · refine getV_of (tlv_back b 6 _ (by omega)) ?_
    have hb : bodyV 6 0 ⟨#[]⟩ z = putO z := by simp [bodyV]
    rw [hb]
    simp [getBody, getO_put ho]

/-- What is read is right, and has these bytes. -/
theorem val_read {c : List Int} (hc : Byt c) {t K N : Int} {S : ByteArray} {O : List Int} {next : Int} (h : getV c t = (K, N, S, O, next, true)) :
    okV K N S O = true ∧ ∃ p q : Nat, t = p ∧ next = q ∧ p ≤ q ∧ q ≤ c.length ∧ p < c.length ∧ putV [] K N S O = (c.drop p).take (q - p) := by
  rcases hT : getTlv c t with ⟨k, body, nx, okT⟩
  have hby : Byt body := by have := getTlv_byte c t hc; rw [hT] at this; exact this
  have main : okT = true → okV K N S O = true → K = k → next = nx → bodyV K N S O = body → okV K N S O = true ∧ ∃ p q : Nat, t = p ∧ next = q ∧ p ≤ q ∧ q ≤ c.length ∧ p < c.length ∧ putV [] K N S O = (c.drop p).take (q - p) := by
    rintro rfl hok rfl rfl hbd
    obtain ⟨p, q, rfl, rfl, h1, h2, h3⟩ := tlv_read c hc t K next body hT
    refine ⟨hok, p, q, rfl, rfl, h1, h2, ?_, ?_⟩
    · by_cases hp : p < c.length
      · exact hp
      · unfold getTlv at hT; rw [if_pos (.inr (by omega))] at hT; simp at hT
    · rw [← h3, ← hbd]; simp [putV, hok]
  rcases getV_ways h hT with ⟨ht, e⟩ | ⟨ht, hk, hi, e⟩ | ⟨ht, hk, hi, e⟩ | ⟨ht, hk, hl, e⟩ | ⟨ht, hk, hl, e⟩ | ⟨ht, hk, o, ho, e⟩ | ⟨ht, hk, ho, e⟩ | ⟨ht, hk, hk', hl, e⟩ | ⟨ht, hk, hk', e⟩
  · cases e
  · cases e
    have hi' : getInt body = ((getInt body).1, true) := Prod.ext rfl hi
    exact main ht (int_ok hby hi') hk.symm rfl (by simp [bodyV]; exact int_read body hby _ hi')
  · cases e
  · cases e
    exact main ht (by rw [text_ok]; exact decide_eq_true hl) hk.symm rfl (by simp [bodyV]; exact strB_byB hby)
  · cases e
  · cases e
    exact main ht (oid_ok (getO_is ho).1) hk.symm rfl (by simp [bodyV]; exact (getO_is ho).2)
  · cases e
  · cases e
    refine main ht (by rw [bare_ok hk.1 hk.2.1 hk.2.2]; obtain ⟨x, hx, _⟩ := bare_some hk'; rw [hx]; rfl) rfl rfl ?_
    unfold bodyV
    rw [if_neg hk.1, if_neg hk.2.1, if_neg hk.2.2, List.eq_nil_of_length_eq_zero hl]
  · cases e

end Go.Proofs.YtamglfhnhjgdjaaGreatDoor
