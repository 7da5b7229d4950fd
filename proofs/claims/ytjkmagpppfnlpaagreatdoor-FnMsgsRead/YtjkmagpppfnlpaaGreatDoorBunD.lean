/-
  The law file's own helpers on values by their contracts: a copy, whether two are the same, their size, the marks that are put and read again.
  A value within (the program's worth) by contracts: what it is of a value, whether it is right, the value that it is.
  Whether two values are the same, by contracts: the specification's and the program's.
  Whether a value is right, by the contract of the specification.
  The bytes of a value, by contracts: the specification's and the program's.
  The bytes of a value, by the contract of the specification.
  The bytes of a value, its row written out; a block stays while another one is written.
  A value out of its bytes, by the contract of the program.
  A value out of its bytes, by the contract of the specification.
  A value comes back of its bytes; what is read is right, and has these bytes.
-/
import Derived.Test.YtjkmagpppfnlpaaGreatDoorBunA
import Derived.Test.YtjkmagpppfnlpaaGreatDoorBunB
import Derived.Deep.RegionHeld3
import Derived.Lib.ConvBytes
import Derived.Lib.AtoiErrMem
import Derived.Laws.IdiomStrings
namespace Go.Proofs.YtjkmagpppfnlpaaGreatDoor
open Go.RowKit

theorem below_one (w : World) (o : Obj) : Below w.heap.size w (w.alloc o) := (Below.refl _ _).alloc (Nat.le_refl _) o
theorem below_two (w : World) (o p : Obj) : Below w.heap.size w ((w.alloc o).alloc p) := (below_one w o).alloc (by simp) p
theorem below_three (w : World) (o p q : Obj) : Below w.heap.size w (((w.alloc o).alloc p).alloc q) := (below_two w o p).alloc (by simp; omega) q

theorem block_last (w : World) (o : Obj) : (w.alloc o).heap[w.heap.size]? = some o := by show (w.heap.push o)[w.heap.size]? = _; simp
theorem kept_one {w w1 : World} {o : Obj} (hb : Below (w.alloc o).heap.size (w.alloc o) w1) : w1.heap[w.heap.size]? = some o := by
  rw [hb.block _ (by simp)]; exact block_last w o
theorem kept_two {w w1 : World} {o p : Obj} (hb : Below ((w.alloc o).alloc p).heap.size ((w.alloc o).alloc p) w1) : w1.heap[w.heap.size]? = some o ∧ w1.heap[w.heap.size + 1]? = some p := by
  refine ⟨?_, ?_⟩
  · have := below_one (w.alloc o) p
    exact kept_one (w := w) (o := o) ((this.trans (hb.mono this.size)))
  · have := kept_one (w := w.alloc o) (o := p) hb; simpa using this
theorem kept_three {w w1 : World} {o p q : Obj} (hb : Below (((w.alloc o).alloc p).alloc q).heap.size (((w.alloc o).alloc p).alloc q) w1) : w1.heap[w.heap.size]? = some o ∧ w1.heap[w.heap.size + 1]? = some p ∧ w1.heap[w.heap.size + 1 + 1]? = some q := by
  have t := below_one ((w.alloc o).alloc p) q
  have u := kept_two (w := w) (o := o) (p := p) (t.trans (hb.mono t.size))
  refine ⟨u.1, u.2, ?_⟩
  have := kept_one (w := (w.alloc o).alloc p) (o := q) hb; simpa using this

theorem cells4 {w : World} {C : Nat} {t : TypeId} {c0 c1 c2 c3 : Value} (h : w.heap[C]? = some (.cells #[c0, c1, c2, c3] t)) :
    (w.cell? ⟨C, 0, none⟩ = some c0 ∧ w.cell? ⟨C, 1, none⟩ = some c1 ∧ w.cell? ⟨C, 2, none⟩ = some c2 ∧ w.cell? ⟨C, 3, none⟩ = some c3) ∧
    (w.frozen? ⟨C, 0, none⟩ = false ∧ w.frozen? ⟨C, 1, none⟩ = false ∧ w.frozen? ⟨C, 2, none⟩ = false ∧ w.frozen? ⟨C, 3, none⟩ = false) := by
  refine ⟨⟨?_, ?_, ?_, ?_⟩, ?_, ?_, ?_, ?_⟩ <;> simp [World.cell?, World.frozen?, h]

/-- What the call owns stays while an elder block is written. -/
theorem own_set {w : World} {base : Nat} {e : TypeId} {v : Value} {n : Nat} {xs : List Value} (h : w.ownsRow base e 1 v n xs) {g j : Nat} {u : Value} (hg : g < base) : (w.setCell ⟨g, j, none⟩ u).ownsRow base e 1 v n xs :=
  own_above h (grown_setCell (World.grownBy.refl _ _) j u) (by intro k hk; cases hk; exact hg)

theorem below_set {B : Nat} {a w : World} (h : Below B a w) {g : Nat} (hB : B ≤ g) (j : Nat) (u : Value) : Below B a (w.setCell ⟨g, j, none⟩ u) := h.setCell (p := ⟨g, j, none⟩) hB u

theorem grown_below {a b c : World} {row : Option Nat} (h : Below a.heap.size a b) (k : b.grownBy c row) : a.grownBy c row where
  os := k.os.trans h.os
  tape := k.tape.trans h.tape
  output := k.output.trans h.output
  size := Nat.le_trans h.size k.size
  block := fun j hj hne => (k.block j (Nat.lt_of_lt_of_le hj h.size) hne).trans (h.block j hj)

/-- Two values are the same, part by part. -/
def sameV (K N : Int) (S : ByteArray) (z : List Int) (K' N' : Int) (S' : ByteArray) (z' : List Int) : Bool := (K == K') && ((N == N') && ((S.toList == S'.toList) && decide (z = z')))

theorem sameV_self (K N : Int) (S : ByteArray) (z : List Int) : sameV K N S z K N S z = true := by simp [sameV]

theorem same_noK {K N : Int} {S : ByteArray} {z : List Int} {K' N' : Int} {S' : ByteArray} {z' : List Int} (h : (K != K') = true) : false = sameV K N S z K' N' S' z' := by
  simp at h; simp [sameV, h]
theorem same_noN {K N : Int} {S : ByteArray} {z : List Int} {K' N' : Int} {S' : ByteArray} {z' : List Int} (h : (N != N') = true) : false = sameV K N S z K' N' S' z' := by
  simp at h; simp [sameV, h]
theorem same_noS {K N : Int} {S : ByteArray} {z : List Int} {K' N' : Int} {S' : ByteArray} {z' : List Int} (h : (!S.toList == S'.toList) = true) : false = sameV K N S z K' N' S' z' := by
  simp at h; simp [sameV, h]
theorem same_noO {K N : Int} {S : ByteArray} {z : List Int} {K' N' : Int} {S' : ByteArray} {z' : List Int} (h : decide (z = z') = false) : false = sameV K N S z K' N' S' z' := by
  simp at h; simp [sameV, h]
theorem same_yes {K N : Int} {S : ByteArray} {z : List Int} {K' N' : Int} {S' : ByteArray} {z' : List Int} (h1 : (K != K') = false) (h2 : (N != N') = false) (h3 : (!S.toList == S'.toList) = false) (h4 : decide (z = z') = true) : true = sameV K N S z K' N' S' z' := by
  simp at h1 h2 h3 h4; simp [sameV, h1, h2, h3, h4]

set_option maxRecDepth 100000 in
set_option maxHeartbeats 400000 in
theorem eqVal_any (K N : Int) (S : ByteArray) (a1 : Option Addr) (l1 c1 : Nat) (z1 : List Int) (K' N' : Int) (S' : ByteArray) (a2 : Option Addr) (l2 c2 : Nat) (z2 : List Int) (w : World) (h1 : IRow w a1 l1 c1 z1) (h2 : IRow w a2 l2 c2 z2) :
    Calls Tryz.prog 102 #[.agg #[.int .i64 K, .int .i64 N, .string S, .slice a1 l1 c1], .agg #[.int .i64 K', .int .i64 N', .string S', .slice a2 l2 c2]] w fun e w' => e = .returned (.bool (sameV K N S z1 K' N' S' z2)) ∧ Below w.heap.size w w' := by
  generalize hP : sameV K N S z1 K' N' S' z2 = P
  have HP := hide hP
  clear hP
  go_enter Tryz.func102, Tryz.ntmps102
  go_wp2_with fail
  · go_ret
    exact ⟨ret_bool ((same_noK ‹_›).trans HP.out), below_two _ _ _⟩
  · go_ret
    exact ⟨ret_bool ((same_noN ‹_›).trans HP.out), below_two _ _ _⟩
  · go_ret
    exact ⟨ret_bool ((same_noS ‹_›).trans HP.out), below_two _ _ _⟩
  · have t1 := ‹(K != K') = false›
    have t2 := ‹(N != N') = false›
    have t3 := ‹(!S.toList == S'.toList) = false›
    cases hD : decide (z1 = z2)
    · refine (eqI_any a1 l1 c1 z1 a2 l2 c2 z2 _ (h1.below (below_two _ _ _)) (h2.below (below_two _ _ _))).mono ?_
      rintro e w1 ⟨rfl, n, rfl⟩
      rw [hD]
      have HD := hide hD
      clear hD
      go_wp2
      go_ret
      exact ⟨ret_bool ((same_noO HD.out).trans HP.out), below_drewN (below_two _ _ _) n⟩
    · refine (eqI_any a1 l1 c1 z1 a2 l2 c2 z2 _ (h1.below (below_two _ _ _)) (h2.below (below_two _ _ _))).mono ?_
      rintro e w1 ⟨rfl, n, rfl⟩
      rw [hD]
      have HD := hide hD
      clear hD
      go_wp2
      go_ret
      exact ⟨ret_bool ((same_yes t1 t2 t3 HD.out).trans HP.out), below_drewN (below_two _ _ _) n⟩

theorem eqVal_same (K N : Int) (S : ByteArray) (a1 : Option Addr) (l1 c1 : Nat) (a2 : Option Addr) (l2 c2 : Nat) (zs : List Int) (w : World) (h1 : IRow w a1 l1 c1 zs) (h2 : IRow w a2 l2 c2 zs) :
    Calls Tryz.prog 102 #[.agg #[.int .i64 K, .int .i64 N, .string S, .slice a1 l1 c1], .agg #[.int .i64 K, .int .i64 N, .string S, .slice a2 l2 c2]] w fun e w' => e = .returned (.bool true) ∧ Below w.heap.size w w' := by
  refine (eqVal_any K N S a1 l1 c1 zs K N S a2 l2 c2 zs w h1 h2).mono ?_
  rintro e w' ⟨rfl, hb⟩
  exact ⟨by rw [sameV_self], hb⟩

/-- A value within: a case a kind. -/
inductive Wor where
  | int (n : Int)
  | text (s : ByteArray)
  | oid (a : Option Addr) (l c : Nat) (z : List Int)
  | null
  | none
  | last

def Wor.v : Wor → Value
  | .int n => .iface 166 (.int .i64 n)
  | .text s => .iface 167 (.string s)
  | .oid a l c _ => .iface 168 (.slice a l c)
  | .null => .iface 175 (.agg #[])
  | .none => .iface 176 (.agg #[])
  | .last => .iface 177 (.agg #[])
def Wor.kind : Wor → Int
  | .int _ => 2
  | .text _ => 4
  | .oid _ _ _ _ => 6
  | .null => 5
  | .none => 128
  | .last => 130
def Wor.num : Wor → Int
  | .int n => n
  | _ => 0
def Wor.str : Wor → ByteArray
  | .text s => s
  | _ => ⟨#[]⟩
def Wor.sl : Wor → Value
  | .oid a l c _ => .slice a l c
  | _ => .slice Option.none 0 0
def Wor.z : Wor → List Int
  | .oid _ _ _ z => z
  | _ => []
def Wor.ok : Wor → Bool
  | .int n => decide (-2147483648 ≤ n) && decide (n ≤ 2147483647)
  | .text s => decide ((s.size : Int) ≤ 20)
  | .oid _ _ _ z => oidOk z
  | _ => true
def Wor.In (w : World) : Wor → Prop
  | .oid a l c z => IRow w a l c z
  | _ => True

/-- What a value's kind names; none where there is no such kind. -/
def worOf (K N : Int) (S : ByteArray) (a : Option Addr) (l c : Nat) (z : List Int) : Option Wor :=
  if K = 2 then some (.int N) else if K = 4 then some (.text S) else if K = 6 then some (.oid a l c z)
  else if K = 5 then some .null else if K = 128 then some .none else if K = 130 then some .last else Option.none

def worV : Option Wor → Value
  | some x => x.v
  | Option.none => .nilIface

theorem ret_val {a b : Value} (h : a = b) : Ending.returned a = .returned b := by rw [h]

theorem as_int_int (v : Value) (w : World) : (Instr.typeAssert (.iface 166 v) 154 166 true).run Tryz.prog w = .ok (.tuple #[v, .bool true]) w := by kernel_rfl
theorem as_int_text (v : Value) (w : World) : (Instr.typeAssert (.iface 166 v) 154 167 true).run Tryz.prog w = .ok (.tuple #[.string ⟨#[]⟩, .bool false]) w := by kernel_rfl
theorem as_int_oid (v : Value) (w : World) : (Instr.typeAssert (.iface 166 v) 154 168 true).run Tryz.prog w = .ok (.tuple #[.slice Option.none 0 0, .bool false]) w := by kernel_rfl
theorem kind_int (v : Value) (w : World) : (method 316 166 v "loop.example/g00326/impl.kind").run Tryz.prog w = .ok (168, v) w := by kernel_rfl
theorem as_text_int (v : Value) (w : World) : (Instr.typeAssert (.iface 167 v) 154 166 true).run Tryz.prog w = .ok (.tuple #[.int .i64 0, .bool false]) w := by kernel_rfl
theorem as_text_text (v : Value) (w : World) : (Instr.typeAssert (.iface 167 v) 154 167 true).run Tryz.prog w = .ok (.tuple #[v, .bool true]) w := by kernel_rfl
theorem as_text_oid (v : Value) (w : World) : (Instr.typeAssert (.iface 167 v) 154 168 true).run Tryz.prog w = .ok (.tuple #[.slice Option.none 0 0, .bool false]) w := by kernel_rfl
theorem kind_text (v : Value) (w : World) : (method 316 167 v "loop.example/g00326/impl.kind").run Tryz.prog w = .ok (169, v) w := by kernel_rfl
theorem as_oid_int (v : Value) (w : World) : (Instr.typeAssert (.iface 168 v) 154 166 true).run Tryz.prog w = .ok (.tuple #[.int .i64 0, .bool false]) w := by kernel_rfl
theorem as_oid_text (v : Value) (w : World) : (Instr.typeAssert (.iface 168 v) 154 167 true).run Tryz.prog w = .ok (.tuple #[.string ⟨#[]⟩, .bool false]) w := by kernel_rfl
theorem as_oid_oid (v : Value) (w : World) : (Instr.typeAssert (.iface 168 v) 154 168 true).run Tryz.prog w = .ok (.tuple #[v, .bool true]) w := by kernel_rfl
theorem kind_oid (v : Value) (w : World) : (method 316 168 v "loop.example/g00326/impl.kind").run Tryz.prog w = .ok (170, v) w := by kernel_rfl
theorem as_null_int (v : Value) (w : World) : (Instr.typeAssert (.iface 175 v) 154 166 true).run Tryz.prog w = .ok (.tuple #[.int .i64 0, .bool false]) w := by kernel_rfl
theorem as_null_text (v : Value) (w : World) : (Instr.typeAssert (.iface 175 v) 154 167 true).run Tryz.prog w = .ok (.tuple #[.string ⟨#[]⟩, .bool false]) w := by kernel_rfl
theorem as_null_oid (v : Value) (w : World) : (Instr.typeAssert (.iface 175 v) 154 168 true).run Tryz.prog w = .ok (.tuple #[.slice Option.none 0 0, .bool false]) w := by kernel_rfl
theorem kind_null (v : Value) (w : World) : (method 316 175 v "loop.example/g00326/impl.kind").run Tryz.prog w = .ok (171, v) w := by kernel_rfl
theorem as_none_int (v : Value) (w : World) : (Instr.typeAssert (.iface 176 v) 154 166 true).run Tryz.prog w = .ok (.tuple #[.int .i64 0, .bool false]) w := by kernel_rfl
theorem as_none_text (v : Value) (w : World) : (Instr.typeAssert (.iface 176 v) 154 167 true).run Tryz.prog w = .ok (.tuple #[.string ⟨#[]⟩, .bool false]) w := by kernel_rfl
theorem as_none_oid (v : Value) (w : World) : (Instr.typeAssert (.iface 176 v) 154 168 true).run Tryz.prog w = .ok (.tuple #[.slice Option.none 0 0, .bool false]) w := by kernel_rfl
theorem kind_none (v : Value) (w : World) : (method 316 176 v "loop.example/g00326/impl.kind").run Tryz.prog w = .ok (172, v) w := by kernel_rfl
theorem as_end_int (v : Value) (w : World) : (Instr.typeAssert (.iface 177 v) 154 166 true).run Tryz.prog w = .ok (.tuple #[.int .i64 0, .bool false]) w := by kernel_rfl
theorem as_end_text (v : Value) (w : World) : (Instr.typeAssert (.iface 177 v) 154 167 true).run Tryz.prog w = .ok (.tuple #[.string ⟨#[]⟩, .bool false]) w := by kernel_rfl
theorem as_end_oid (v : Value) (w : World) : (Instr.typeAssert (.iface 177 v) 154 168 true).run Tryz.prog w = .ok (.tuple #[.slice Option.none 0 0, .bool false]) w := by kernel_rfl
theorem kind_end (v : Value) (w : World) : (method 316 177 v "loop.example/g00326/impl.kind").run Tryz.prog w = .ok (173, v) w := by kernel_rfl

theorem of_two {K N : Int} {S : ByteArray} {a : Option Addr} {l c : Nat} {z : List Int} (h : (K == 2) = true) : worOf K N S a l c z = some (.int N) := by simp at h; simp [worOf, h]
theorem of_four {K N : Int} {S : ByteArray} {a : Option Addr} {l c : Nat} {z : List Int} (h : (K == 4) = true) : worOf K N S a l c z = some (.text S) := by simp at h; simp [worOf, h]
theorem of_six {K N : Int} {S : ByteArray} {a : Option Addr} {l c : Nat} {z : List Int} (h : (K == 6) = true) : worOf K N S a l c z = some (.oid a l c z) := by simp at h; simp [worOf, h]

/-- The kinds that name nothing. -/
def bareOf (K : Int) : Option Wor := if K = 5 then some .null else if K = 128 then some .none else if K = 130 then some .last else Option.none

theorem of_bare {K N : Int} {S : ByteArray} {a : Option Addr} {l c : Nat} {z : List Int} (h2 : (K == 2) = false) (h4 : (K == 4) = false) (h6 : (K == 6) = false) : worOf K N S a l c z = bareOf K := by
  simp at h2 h4 h6; simp [worOf, bareOf, h2, h4, h6]

theorem bare_five {K : Int} (h : (K == 5) = true) : worV (bareOf K) = .iface 175 (.agg #[]) := by simp at h; simp [bareOf, h, worV, Wor.v]
theorem bare_none {K : Int} (h : (K == 128) = true) : worV (bareOf K) = .iface 176 (.agg #[]) := by simp at h; simp [bareOf, h, worV, Wor.v]
theorem bare_last {K : Int} (h : (K == 130) = true) : worV (bareOf K) = .iface 177 (.agg #[]) := by simp at h; simp [bareOf, h, worV, Wor.v]
theorem bare_no {K : Int} (h1 : (K == 5) = false) (h2 : (K == 128) = false) (h3 : (K == 130) = false) : worV (bareOf K) = .nilIface := by simp at h1 h2 h3; simp [bareOf, h1, h2, h3, worV]

set_option maxRecDepth 100000 in
set_option maxHeartbeats 400000 in
theorem bare_any (K : Int) (w : World) :
    Calls Tryz.prog 124 #[.int .i64 K] w fun e w' => e = .returned (worV (bareOf K)) ∧ w' = w := by
  generalize hP : worV (bareOf K) = P
  have HP := hide hP
  clear hP
  go_enter Tryz.func124, Tryz.ntmps124
  go_wp2
  · go_ret
    exact ⟨ret_val ((bare_five ‹_›).symm.trans HP.out), rfl⟩
  · go_ret
    exact ⟨ret_val ((bare_none ‹_›).symm.trans HP.out), rfl⟩
  · go_ret
    exact ⟨ret_val ((bare_last ‹_›).symm.trans HP.out), rfl⟩
  · go_ret
    exact ⟨ret_val ((bare_no ‹_› ‹_› ‹_›).symm.trans HP.out), rfl⟩

set_option maxRecDepth 100000 in
set_option maxHeartbeats 400000 in
theorem worthOf_any (K N : Int) (S : ByteArray) (a1 : Option Addr) (l1 c1 : Nat) (z1 : List Int) (w : World) :
    Calls Tryz.prog 107 #[.agg #[.int .i64 K, .int .i64 N, .string S, .slice a1 l1 c1]] w fun e w' => e = .returned (worV (worOf K N S a1 l1 c1 z1)) ∧ Below w.heap.size w w' := by
  generalize hP : worV (worOf K N S a1 l1 c1 z1) = P
  have HP := hide hP
  clear hP
  go_enter Tryz.func107, Tryz.ntmps107
  go_wp2_with fail
  · go_ret
    exact ⟨ret_val (by rw [← HP.out, of_two ‹_›]; rfl), below_one _ _⟩
  · go_ret
    exact ⟨ret_val (by rw [← HP.out, of_four ‹_›]; rfl), below_one _ _⟩
  · go_ret
    exact ⟨ret_val (by rw [← HP.out, of_six ‹_›]; rfl), below_one _ _⟩
  · have t2 := hide ‹(K == 2) = false›
    have t4 := hide ‹(K == 4) = false›
    have t6 := hide ‹(K == 6) = false›
    refine (bare_any K _).mono ?_
    rintro e w1 ⟨rfl, rfl⟩
    go_wp2
    go_ret
    exact ⟨ret_val (by rw [← HP.out, of_bare t2.out t4.out t6.out]; rfl), below_one _ _⟩

set_option maxRecDepth 100000 in
set_option maxHeartbeats 400000 in
theorem worthOk_nil (w : World) : Calls Tryz.prog 122 #[.nilIface] w fun e w' => e = .returned (.bool false) ∧ w' = w := by
  go_enter Tryz.func122, Tryz.ntmps122
  go_wp2
  go_ret
  exact ⟨rfl, rfl⟩

set_option maxRecDepth 100000 in
set_option maxHeartbeats 400000 in
theorem worthOk_any (x : Wor) (w : World) (h : x.In w) :
    Calls Tryz.prog 122 #[x.v] w fun e w' => e = .returned (.bool x.ok) ∧ w' = w := by
  cases x with
  | int n =>
    show Calls Tryz.prog 122 #[.iface 166 (.int .i64 n)] w _
    have s1 := as_int_int
    go_enter Tryz.func122, Tryz.ntmps122
    by_cases g : -2147483648 ≤ n
    · go_wp2
      go_ret
      exact ⟨ret_bool (by simp [Wor.ok, g]), rfl⟩
    · go_wp2
      go_ret
      exact ⟨ret_bool (by simp [Wor.ok]; omega), rfl⟩
  | text s =>
    show Calls Tryz.prog 122 #[.iface 167 (.string s)] w _
    have s1 := as_text_int
    have s2 := as_text_text
    go_enter Tryz.func122, Tryz.ntmps122
    go_wp2
    go_ret
    exact ⟨rfl, rfl⟩
  | oid a l c z =>
    show Calls Tryz.prog 122 #[.iface 168 (.slice a l c)] w _
    have s1 := as_oid_int
    have s2 := as_oid_text
    have s3 := as_oid_oid
    have h' : IRow w a l c z := h
    go_enter Tryz.func122, Tryz.ntmps122
    go_wp2_with fail
    refine (implOk_any a l c z _ h').mono ?_
    rintro e w1 ⟨rfl, rfl⟩
    go_wp2
    go_ret
    exact ⟨rfl, rfl⟩
  | null =>
    show Calls Tryz.prog 122 #[.iface 175 (.agg #[])] w _
    have s1 := as_null_int
    have s2 := as_null_text
    have s3 := as_null_oid
    go_enter Tryz.func122, Tryz.ntmps122
    go_wp2
    go_ret
    exact ⟨rfl, rfl⟩
  | none =>
    show Calls Tryz.prog 122 #[.iface 176 (.agg #[])] w _
    have s1 := as_none_int
    have s2 := as_none_text
    have s3 := as_none_oid
    go_enter Tryz.func122, Tryz.ntmps122
    go_wp2
    go_ret
    exact ⟨rfl, rfl⟩
  | last =>
    show Calls Tryz.prog 122 #[.iface 177 (.agg #[])] w _
    have s1 := as_end_int
    have s2 := as_end_text
    have s3 := as_end_oid
    go_enter Tryz.func122, Tryz.ntmps122
    go_wp2
    go_ret
    exact ⟨rfl, rfl⟩

set_option maxRecDepth 100000 in
set_option maxHeartbeats 400000 in
theorem valOf_any (x : Wor) (w : World) :
    Calls Tryz.prog 123 #[x.v] w fun e w' => e = .returned (.agg #[.int .i64 x.kind, .int .i64 x.num, .string x.str, x.sl]) ∧ Below w.heap.size w w' := by
  cases x with
  | int n =>
    show Calls Tryz.prog 123 #[.iface 166 (.int .i64 n)] w _
    have s0 := kind_int
    have s1 := as_int_int
    go_enter Tryz.func123, Tryz.ntmps123
    go_wp2
    exact bodyPost_ret (v := .agg #[.int .i64 2, .int .i64 n, .string ⟨#[]⟩, .slice Option.none 0 0]) (by simp [results, Tryz.results123, go_sem]) rfl ⟨rfl, below_two _ _ _⟩
  | text s =>
    show Calls Tryz.prog 123 #[.iface 167 (.string s)] w _
    have s0 := kind_text
    have s1 := as_text_int
    have s2 := as_text_text
    go_enter Tryz.func123, Tryz.ntmps123
    go_wp2
    exact bodyPost_ret (v := .agg #[.int .i64 4, .int .i64 0, .string s, .slice Option.none 0 0]) (by simp [results, Tryz.results123, go_sem]) rfl ⟨rfl, below_two _ _ _⟩
  | oid a l c z =>
    show Calls Tryz.prog 123 #[.iface 168 (.slice a l c)] w _
    have s0 := kind_oid
    have s1 := as_oid_int
    have s2 := as_oid_text
    have s3 := as_oid_oid
    go_enter Tryz.func123, Tryz.ntmps123
    go_wp2
    exact bodyPost_ret (v := .agg #[.int .i64 6, .int .i64 0, .string ⟨#[]⟩, .slice a l c]) (by simp [results, Tryz.results123, go_sem]) rfl ⟨rfl, below_two _ _ _⟩
  | null =>
    show Calls Tryz.prog 123 #[.iface 175 (.agg #[])] w _
    have s0 := kind_null
    have s1 := as_null_int
    have s2 := as_null_text
    have s3 := as_null_oid
    go_enter Tryz.func123, Tryz.ntmps123
    go_wp2
    exact bodyPost_ret (v := .agg #[.int .i64 5, .int .i64 0, .string ⟨#[]⟩, .slice Option.none 0 0]) (by simp [results, Tryz.results123, go_sem]) rfl ⟨rfl, below_three _ _ _ _⟩
  | none =>
    show Calls Tryz.prog 123 #[.iface 176 (.agg #[])] w _
    have s0 := kind_none
    have s1 := as_none_int
    have s2 := as_none_text
    have s3 := as_none_oid
    go_enter Tryz.func123, Tryz.ntmps123
    go_wp2
    exact bodyPost_ret (v := .agg #[.int .i64 128, .int .i64 0, .string ⟨#[]⟩, .slice Option.none 0 0]) (by simp [results, Tryz.results123, go_sem]) rfl ⟨rfl, below_three _ _ _ _⟩
  | last =>
    show Calls Tryz.prog 123 #[.iface 177 (.agg #[])] w _
    have s0 := kind_end
    have s1 := as_end_int
    have s2 := as_end_text
    have s3 := as_end_oid
    go_enter Tryz.func123, Tryz.ntmps123
    go_wp2
    exact bodyPost_ret (v := .agg #[.int .i64 130, .int .i64 0, .string ⟨#[]⟩, .slice Option.none 0 0]) (by simp [results, Tryz.results123, go_sem]) rfl ⟨rfl, below_three _ _ _ _⟩

set_option maxRecDepth 100000 in
set_option maxHeartbeats 400000 in
theorem implSameVal_any (K N : Int) (S : ByteArray) (a1 : Option Addr) (l1 c1 : Nat) (z1 : List Int) (K' N' : Int) (S' : ByteArray) (a2 : Option Addr) (l2 c2 : Nat) (z2 : List Int) (w : World) (h1 : IRow w a1 l1 c1 z1) (h2 : IRow w a2 l2 c2 z2) :
    Calls Tryz.prog 96 #[.agg #[.int .i64 K, .int .i64 N, .string S, .slice a1 l1 c1], .agg #[.int .i64 K', .int .i64 N', .string S', .slice a2 l2 c2]] w fun e w' => e = .returned (.bool (sameV K N S z1 K' N' S' z2)) ∧ Below w.heap.size w w' := by
  generalize hP : sameV K N S z1 K' N' S' z2 = P
  have HP := hide hP
  clear hP
  cases t1 : (K == K')
  · go_enter Tryz.func96, Tryz.ntmps96
    go_wp2
    go_ret
    exact ⟨ret_bool (by rw [← HP.out]; simp [sameV, t1]), below_two _ _ _⟩
  cases t2 : (N == N')
  · go_enter Tryz.func96, Tryz.ntmps96
    go_wp2
    go_ret
    exact ⟨ret_bool (by rw [← HP.out]; simp [sameV, t2]), below_two _ _ _⟩
  cases t3 : (S.toList == S'.toList)
  · go_enter Tryz.func96, Tryz.ntmps96
    go_wp2
    go_ret
    exact ⟨ret_bool (by rw [← HP.out]; simp [sameV, t3]), below_two _ _ _⟩
  go_enter Tryz.func96, Tryz.ntmps96
  go_wp2_with fail
  refine (equal_any a1 l1 c1 z1 a2 l2 c2 z2 _ (h1.below (below_two _ _ _)) (h2.below (below_two _ _ _))).mono ?_
  rintro e w1 ⟨rfl, n, rfl⟩
  go_wp2
  go_ret
  exact ⟨ret_bool (by rw [← HP.out]; simp [sameV, t1, t2, t3]), below_drewN (below_two _ _ _) n⟩

/-- A value is right. -/
def okV (K N : Int) (S : ByteArray) (z : List Int) : Bool :=
  if K = 5 ∨ K = 128 ∨ K = 130 then (N == 0) && (S.toList.isEmpty && decide (z = []))
  else if K = 2 then (clip N == N) && (S.toList.isEmpty && decide (z = []))
  else if K = 4 then decide ((S.size : Int) ≤ 20) && ((N == 0) && decide (z = []))
  else if K = 6 then oidOk z && ((N == 0) && S.toList.isEmpty)
  else false

theorem empty_of {w : World} {a1 : Option Addr} {l1 c1 : Nat} {z1 : List Int} (h1 : IRow w a1 l1 c1 z1) : ((l1 : Int) == 0) = decide (z1 = []) := by
  have := h1.size
  cases z1 with
  | nil => simp at this; subst this; simp
  | cons x r => simp at this; simp; omega

set_option maxRecDepth 100000 in
set_option maxHeartbeats 400000 in
theorem specOk_null (N : Int) (S : ByteArray) (a1 : Option Addr) (l1 c1 : Nat) (z1 : List Int) (w : World) (h1 : IRow w a1 l1 c1 z1) :
    Calls Tryz.prog 85 #[.agg #[.int .i64 5, .int .i64 N, .string S, .slice a1 l1 c1]] w fun e w' => e = .returned (.bool (okV 5 N S z1)) ∧ Below w.heap.size w w' := by
  have hz := empty_of h1
  generalize hP : okV 5 N S z1 = P
  have HP := hide hP
  clear hP
  cases tN : (N == 0)
  · go_enter Tryz.func85, Tryz.ntmps85
    go_wp2
    go_ret
    exact ⟨ret_bool (by rw [← HP.out]; simp [okV, tN]), below_one _ _⟩
  cases tS : S.toList.isEmpty
  · go_enter Tryz.func85, Tryz.ntmps85
    go_wp2
    go_ret
    exact ⟨ret_bool (by rw [← HP.out]; simp [okV, tS]), below_one _ _⟩
  go_enter Tryz.func85, Tryz.ntmps85
  go_wp2
  go_ret
  exact ⟨ret_bool (by rw [← HP.out]; simp [okV, tN, tS]), below_one _ _⟩

set_option maxRecDepth 100000 in
set_option maxHeartbeats 400000 in
theorem specOk_none (N : Int) (S : ByteArray) (a1 : Option Addr) (l1 c1 : Nat) (z1 : List Int) (w : World) (h1 : IRow w a1 l1 c1 z1) :
    Calls Tryz.prog 85 #[.agg #[.int .i64 128, .int .i64 N, .string S, .slice a1 l1 c1]] w fun e w' => e = .returned (.bool (okV 128 N S z1)) ∧ Below w.heap.size w w' := by
  have hz := empty_of h1
  generalize hP : okV 128 N S z1 = P
  have HP := hide hP
  clear hP
  cases tN : (N == 0)
  · go_enter Tryz.func85, Tryz.ntmps85
    go_wp2
    go_ret
    exact ⟨ret_bool (by rw [← HP.out]; simp [okV, tN]), below_one _ _⟩
  cases tS : S.toList.isEmpty
  · go_enter Tryz.func85, Tryz.ntmps85
    go_wp2
    go_ret
    exact ⟨ret_bool (by rw [← HP.out]; simp [okV, tS]), below_one _ _⟩
  go_enter Tryz.func85, Tryz.ntmps85
  go_wp2
  go_ret
  exact ⟨ret_bool (by rw [← HP.out]; simp [okV, tN, tS]), below_one _ _⟩

set_option maxRecDepth 100000 in
set_option maxHeartbeats 400000 in
theorem specOk_last (N : Int) (S : ByteArray) (a1 : Option Addr) (l1 c1 : Nat) (z1 : List Int) (w : World) (h1 : IRow w a1 l1 c1 z1) :
    Calls Tryz.prog 85 #[.agg #[.int .i64 130, .int .i64 N, .string S, .slice a1 l1 c1]] w fun e w' => e = .returned (.bool (okV 130 N S z1)) ∧ Below w.heap.size w w' := by
  have hz := empty_of h1
  generalize hP : okV 130 N S z1 = P
  have HP := hide hP
  clear hP
  cases tN : (N == 0)
  · go_enter Tryz.func85, Tryz.ntmps85
    go_wp2
    go_ret
    exact ⟨ret_bool (by rw [← HP.out]; simp [okV, tN]), below_one _ _⟩
  cases tS : S.toList.isEmpty
  · go_enter Tryz.func85, Tryz.ntmps85
    go_wp2
    go_ret
    exact ⟨ret_bool (by rw [← HP.out]; simp [okV, tS]), below_one _ _⟩
  go_enter Tryz.func85, Tryz.ntmps85
  go_wp2
  go_ret
  exact ⟨ret_bool (by rw [← HP.out]; simp [okV, tN, tS]), below_one _ _⟩

set_option maxRecDepth 100000 in
set_option maxHeartbeats 400000 in
theorem specOk_text (N : Int) (S : ByteArray) (a1 : Option Addr) (l1 c1 : Nat) (z1 : List Int) (w : World) (h1 : IRow w a1 l1 c1 z1) :
    Calls Tryz.prog 85 #[.agg #[.int .i64 4, .int .i64 N, .string S, .slice a1 l1 c1]] w fun e w' => e = .returned (.bool (okV 4 N S z1)) ∧ Below w.heap.size w w' := by
  have hz := empty_of h1
  generalize hP : okV 4 N S z1 = P
  have HP := hide hP
  clear hP
  by_cases tS : (S.size : Int) ≤ 20
  · cases tN : (N == 0)
    · go_enter Tryz.func85, Tryz.ntmps85
      go_wp2
      go_ret
      exact ⟨ret_bool (by rw [← HP.out]; simp [okV, tN]), below_one _ _⟩
    · go_enter Tryz.func85, Tryz.ntmps85
      go_wp2
      go_ret
      exact ⟨ret_bool (by rw [← HP.out]; simp [okV, tN, tS]), below_one _ _⟩
  · go_enter Tryz.func85, Tryz.ntmps85
    go_wp2
    go_ret
    exact ⟨ret_bool (by rw [← HP.out]; simp [okV]; omega), below_one _ _⟩

set_option maxRecDepth 100000 in
set_option maxHeartbeats 400000 in
theorem specOk_oid (N : Int) (S : ByteArray) (a1 : Option Addr) (l1 c1 : Nat) (z1 : List Int) (w : World) (h1 : IRow w a1 l1 c1 z1) :
    Calls Tryz.prog 85 #[.agg #[.int .i64 6, .int .i64 N, .string S, .slice a1 l1 c1]] w fun e w' => e = .returned (.bool (okV 6 N S z1)) ∧ Below w.heap.size w w' := by
  have hz := empty_of h1
  generalize hP : okV 6 N S z1 = P
  have HP := hide hP
  clear hP
  cases tO : oidOk z1
  · go_enter Tryz.func85, Tryz.ntmps85
    go_wp2_with fail
    refine (specOk_any a1 l1 c1 z1 _ (h1.below (below_one _ _))).mono ?_
    rintro e w1 ⟨rfl, rfl⟩
    rw [tO]
    go_wp2
    go_ret
    exact ⟨ret_bool (by rw [← HP.out]; simp [okV, tO]), below_one _ _⟩
  cases tN : (N == 0)
  · go_enter Tryz.func85, Tryz.ntmps85
    go_wp2_with fail
    refine (specOk_any a1 l1 c1 z1 _ (h1.below (below_one _ _))).mono ?_
    rintro e w1 ⟨rfl, rfl⟩
    rw [tO]
    go_wp2
    go_ret
    exact ⟨ret_bool (by rw [← HP.out]; simp [okV, tN]), below_one _ _⟩
  go_enter Tryz.func85, Tryz.ntmps85
  go_wp2_with fail
  refine (specOk_any a1 l1 c1 z1 _ (h1.below (below_one _ _))).mono ?_
  rintro e w1 ⟨rfl, rfl⟩
  rw [tO]
  go_wp2
  go_ret
  exact ⟨ret_bool (by rw [← HP.out]; simp [okV, tN, tO]), below_one _ _⟩

set_option maxRecDepth 100000 in
set_option maxHeartbeats 400000 in
theorem specOk_int (N : Int) (S : ByteArray) (a1 : Option Addr) (l1 c1 : Nat) (z1 : List Int) (w : World) (h1 : IRow w a1 l1 c1 z1) :
    Calls Tryz.prog 85 #[.agg #[.int .i64 2, .int .i64 N, .string S, .slice a1 l1 c1]] w fun e w' => e = .returned (.bool (okV 2 N S z1)) ∧ Below w.heap.size w w' := by
  have hz := empty_of h1
  generalize hP : okV 2 N S z1 = P
  have HP := hide hP
  clear hP
  cases tN : (clip N == N)
  · go_enter Tryz.func85, Tryz.ntmps85
    go_wp2_with fail
    go_quiet ((go_at_call 60; refine Calls.quiet_of_same (clip_any N _)))
    go_wp2
    go_ret
    exact ⟨ret_bool (by rw [← HP.out]; simp [okV, tN]), below_drewN (below_one _ _) _⟩
  cases tS : S.toList.isEmpty
  · go_enter Tryz.func85, Tryz.ntmps85
    go_wp2_with fail
    go_quiet ((go_at_call 60; refine Calls.quiet_of_same (clip_any N _)))
    go_wp2
    go_ret
    exact ⟨ret_bool (by rw [← HP.out]; simp [okV, tS]), below_drewN (below_one _ _) _⟩
  go_enter Tryz.func85, Tryz.ntmps85
  go_wp2_with fail
  go_quiet ((go_at_call 60; refine Calls.quiet_of_same (clip_any N _)))
  go_wp2
  go_ret
  exact ⟨ret_bool (by rw [← HP.out]; simp [okV, tN, tS]), below_drewN (below_one _ _) _⟩

set_option maxRecDepth 100000 in
set_option maxHeartbeats 400000 in
theorem specValOk_any (K : Int) (N : Int) (S : ByteArray) (a1 : Option Addr) (l1 c1 : Nat) (z1 : List Int) (w : World) (h1 : IRow w a1 l1 c1 z1) :
    Calls Tryz.prog 85 #[.agg #[.int .i64 K, .int .i64 N, .string S, .slice a1 l1 c1]] w fun e w' => e = .returned (.bool (okV K N S z1)) ∧ Below w.heap.size w w' := by
  by_cases k5 : K = 5
  · subst k5; exact specOk_null N S a1 l1 c1 z1 w h1
  by_cases k128 : K = 128
  · subst k128; exact specOk_none N S a1 l1 c1 z1 w h1
  by_cases k130 : K = 130
  · subst k130; exact specOk_last N S a1 l1 c1 z1 w h1
  by_cases k2 : K = 2
  · subst k2; exact specOk_int N S a1 l1 c1 z1 w h1
  by_cases k4 : K = 4
  · subst k4; exact specOk_text N S a1 l1 c1 z1 w h1
  by_cases k6 : K = 6
  · subst k6; exact specOk_oid N S a1 l1 c1 z1 w h1
  generalize hP : okV K N S z1 = P
  have hp : P = false := by rw [← hP]; simp [okV, k5, k128, k130, k2, k4, k6]
  have HP := hide hp
  clear hp
  clear hP
  go_enter Tryz.func85, Tryz.ntmps85
  go_wp2
  go_ret
  exact ⟨ret_bool HP.out.symm, below_one _ _⟩

/-- The value that is left of a value within. -/
theorem wor_in {K N : Int} {S : ByteArray} {a1 : Option Addr} {l1 c1 : Nat} {z1 : List Int} {w : World} (h1 : IRow w a1 l1 c1 z1) {x : Wor} (h : worOf K N S a1 l1 c1 z1 = some x) : x.In w := by
  unfold worOf at h
  repeat' split at h
  all_goals first | (cases h; exact h1) | (cases h; trivial) | cases h

theorem Wor.row {w : World} {x : Wor} (h : x.In w) : ∃ a l c, x.sl = .slice a l c ∧ IRow w a l c x.z := by
  cases x with
  | oid a l c z => exact ⟨a, l, c, rfl, h⟩
  | int n => exact ⟨_, _, _, rfl, irow_nil w⟩
  | text n => exact ⟨_, _, _, rfl, irow_nil w⟩
  | null => exact ⟨_, _, _, rfl, irow_nil w⟩
  | none => exact ⟨_, _, _, rfl, irow_nil w⟩
  | last => exact ⟨_, _, _, rfl, irow_nil w⟩

theorem empty_list (S : ByteArray) : (S.toList == (⟨#[]⟩ : ByteArray).toList) = S.toList.isEmpty := by
  have : (⟨#[]⟩ : ByteArray).toList = [] := by rw [ByteArray.toList_eq]
  rw [this]; cases S.toList <;> rfl

theorem clip_same (N : Int) : (clip N == N) = (decide (-2147483648 ≤ N) && decide (N ≤ 2147483647)) := by
  unfold clip
  split
  · rw [Bool.eq_iff_iff]; simp; omega
  · split
    · rw [Bool.eq_iff_iff]; simp; omega
    · rw [Bool.eq_iff_iff]; simp; omega

theorem ok_none {K N : Int} {S : ByteArray} {a1 : Option Addr} {l1 c1 : Nat} {z1 : List Int} (h : worOf K N S a1 l1 c1 z1 = Option.none) : okV K N S z1 = false := by
  unfold worOf at h
  unfold okV
  repeat' split at h
  all_goals first | cases h | skip
  rw [if_neg (by omega), if_neg ‹_›, if_neg ‹_›, if_neg ‹_›]

theorem ok_some {K N : Int} {S : ByteArray} {a1 : Option Addr} {l1 c1 : Nat} {z1 : List Int} {x : Wor} (h : worOf K N S a1 l1 c1 z1 = some x) : okV K N S z1 = (x.ok && sameV K N S z1 x.kind x.num x.str x.z) := by
  unfold worOf at h
  repeat' split at h
  all_goals first | cases h | skip
  all_goals subst K
  · show okV 2 N S z1 = ((decide (-2147483648 ≤ N) && decide (N ≤ 2147483647)) && sameV 2 N S z1 2 N ⟨#[]⟩ [])
    unfold okV sameV
    simp only [clip_same, empty_list]
    simp
  · show okV 4 N S z1 = (decide ((S.size : Int) ≤ 20) && sameV 4 N S z1 4 0 S [])
    unfold okV sameV
    simp only [clip_same]
    simp
  · show okV 6 N S z1 = (oidOk z1 && sameV 6 N S z1 6 0 ⟨#[]⟩ z1)
    unfold okV sameV
    simp only [clip_same, empty_list]
    simp
  · show okV 5 N S z1 = (true && sameV 5 N S z1 5 0 ⟨#[]⟩ [])
    unfold okV sameV
    simp only [clip_same, empty_list]
    simp
  · show okV 128 N S z1 = (true && sameV 128 N S z1 128 0 ⟨#[]⟩ [])
    unfold okV sameV
    simp only [clip_same, empty_list]
    simp
  · show okV 130 N S z1 = (true && sameV 130 N S z1 130 0 ⟨#[]⟩ [])
    unfold okV sameV
    simp only [clip_same, empty_list]
    simp

theorem worthOk_at (x : Wor) (b : Bool) (hb : x.ok = b) (w : World) (h : x.In w) :
    Calls Tryz.prog 122 #[x.v] w fun e w' => e = .returned (.bool b) ∧ w' = w := by
  subst hb; exact worthOk_any x w h

theorem Wor.In.below {w w' : World} {x : Wor} (h : x.In w) (hb : Below w.heap.size w w') : x.In w' := by
  cases x with
  | oid a l c z => exact IRow.below h hb
  | int n => trivial
  | text n => trivial
  | null => trivial
  | none => trivial
  | last => trivial

theorem undrew {B n : Nat} {w w' : World} (h : Below B (w.drewN n) w') : Below B w w' := ⟨h.os, h.tape, h.output, h.size, h.block⟩

theorem kept_block {w w' : World} {i : Nat} {o : Obj} (h : w.heap[i]? = some o) (hb : Below w.heap.size w w') : w'.heap[i]? = some o := by
  by_cases hlt : i < w.heap.size
  · rw [hb.block i hlt]; exact h
  · rw [Array.getElem?_eq_none (by omega)] at h; cases h

set_option maxRecDepth 100000 in
set_option maxHeartbeats 1000000 in
theorem implValOk_any (K N : Int) (S : ByteArray) (a1 : Option Addr) (l1 c1 : Nat) (z1 : List Int) (w : World) (h1 : IRow w a1 l1 c1 z1) :
    Calls Tryz.prog 105 #[.agg #[.int .i64 K, .int .i64 N, .string S, .slice a1 l1 c1]] w fun e w' => e = .returned (.bool (okV K N S z1)) ∧ Below w.heap.size w w' := by
  cases hx : worOf K N S a1 l1 c1 z1 with
  | none =>
    have hk := ok_none hx
    generalize okV K N S z1 = P at *
    have HP := hide hk
    clear hk
    go_enter Tryz.func105, Tryz.ntmps105
    go_wp2_with fail
    refine (worthOf_any K N S a1 l1 c1 z1 _).mono ?_
    rintro e w1 ⟨rfl, hb⟩
    rw [hx, show worV Option.none = .nilIface from rfl]
    have b1 : Below w.heap.size w w1 := (below_one w _).trans (hb.mono (below_one w _).size)
    clear hx hb
    go_wp2_with fail
    go_quiet ((go_at_call 122; refine Calls.quiet_of_same (worthOk_nil _)))
    go_wp2
    go_ret
    exact ⟨ret_bool HP.out.symm, below_drewN b1 _⟩
  | some x =>
    have hin := wor_in h1 hx
    have hk := ok_some hx
    obtain ⟨a2, l2, c2, hsl, hr⟩ := Wor.row hin
    cases hok : x.ok
    · rw [hok, Bool.false_and] at hk
      generalize okV K N S z1 = P at *
      have HP := hide hk
      clear hk
      go_enter Tryz.func105, Tryz.ntmps105
      go_wp2_with fail
      refine (worthOf_any K N S a1 l1 c1 z1 _).mono ?_
      rintro e w1 ⟨rfl, hb⟩
      rw [hx, show worV (some x) = x.v from rfl]
      have b1 : Below w.heap.size w w1 := (below_one w _).trans (hb.mono (below_one w _).size)
      have hin1 := hin.below b1
      have HOK := hide hok
      clear hx hb hsl hr hok
      go_wp2_with fail
      go_quiet ((go_at_call 122; refine Calls.quiet_of_same (worthOk_at x false HOK.out _ (hin1.below (below_drewN (Below.refl _ _) _)))))
      go_wp2
      go_ret
      exact ⟨ret_bool HP.out.symm, below_drewN b1 _⟩
    · rw [hok, Bool.true_and] at hk
      generalize okV K N S z1 = P at *
      generalize hSM : sameV K N S z1 x.kind x.num x.str x.z = Q at *
      subst hk
      have HSM := hide hSM
      clear hSM
      go_enter Tryz.func105, Tryz.ntmps105
      go_wp2_with fail
      refine (worthOf_any K N S a1 l1 c1 z1 _).mono ?_
      rintro e w1 ⟨rfl, hb⟩
      rw [hx, show worV (some x) = x.v from rfl]
      obtain ⟨⟨q0, q1, q2, q3⟩, -⟩ := cells4 (kept_one hb)
      have HK := hide (kept_one hb)
      have b1 : Below w.heap.size w w1 := (below_one w _).trans (hb.mono (below_one w _).size)
      have hin1 := hin.below b1
      have h11 := h1.below b1
      have hr1 := hr.below b1
      have HOK := hide hok
      have HV : Hid (∀ W, Calls Tryz.prog 123 #[x.v] W fun e w' => e = .returned (.agg #[.int .i64 x.kind, .int .i64 x.num, .string x.str, .slice a2 l2 c2]) ∧ Below W.heap.size W w') := fun W => by have := valOf_any x W; rw [hsl] at this; exact this
      clear hx hb hr hok hsl
      generalize x.kind = K2 at *
      generalize x.num = N2 at *
      generalize x.str = S2 at *
      generalize x.z = z2 at *
      go_wp2_with fail
      go_region_held3 (fun W => W.cell? ⟨w.heap.size, 0, none⟩ = some (.int .i64 K) ∧ W.cell? ⟨w.heap.size, 1, none⟩ = some (.int .i64 N) ∧ W.cell? ⟨w.heap.size, 2, none⟩ = some (.string S) ∧ W.cell? ⟨w.heap.size, 3, none⟩ = some (.slice a1 l1 c1)) (first | exact (cells4 ‹_›).1 | go_keep) (first
        | (go_at_call 122; refine (worthOk_at x true HOK.out _ (hin1.below (below_drewN (Below.refl _ _) _))).mono ?_; rintro e w2 ⟨rfl, rfl⟩)
        | (go_at_call 123; refine (HV.out _).mono ?_; rintro e w3 ⟨rfl, hb3⟩; have k3 := kept_block HK.out (undrew hb3))
        | (go_at_call 96; refine (implSameVal_any _ _ _ _ _ _ z1 _ _ _ _ _ _ z2 _ (h11.below (undrew hb3)) (hr1.below (undrew hb3))).mono ?_; rintro e w4 ⟨rfl, hb4⟩; rw [HSM.out]; have k4 := kept_block k3 hb4))
      go_wp2
      go_ret
      exact ⟨rfl, (b1.trans ((undrew hb3).mono b1.size)).trans (hb4.mono (Nat.le_trans b1.size (undrew hb3).size))⟩

/-- The bytes of a text. -/
def strB (S : ByteArray) : List Int := S.data.toList.map fun b => (b.toNat : Int)
theorem strB_length (S : ByteArray) : (strB S).length = S.size := by rw [strB, List.length_map, Array.length_toList]; rfl
theorem strB_byte (S : ByteArray) : Byt (strB S) := by
  intro z hz
  simp only [strB, List.mem_map] at hz
  obtain ⟨b, _, rfl⟩ := hz
  have := b.toNat_lt
  omega
theorem strB_getD (S : ByteArray) (j : Nat) (h : j < S.size) : (strB S).getD j 0 = ((S.data.toList.getD j 0).toNat : Int) := by
  have hl : j < S.data.toList.length := by rw [Array.length_toList]; exact h
  simp only [strB, List.getD_eq_getElem?_getD, List.getElem?_map, List.getElem?_eq_getElem hl]
  rfl

/-- What a value's kind names, as bytes. -/
def bodyV (K N : Int) (S : ByteArray) (z : List Int) : List Int := if K = 2 then putInt N else if K = 4 then strB S else if K = 6 then putO z else []
/-- A value put behind b; b alone of what is not right. -/
def putV (b : List Int) (K N : Int) (S : ByteArray) (z : List Int) : List Int := if okV K N S z = true then putTlv b K (bodyV K N S z) else b

theorem row_str (w : World) (S : ByteArray) (h : S.size ≤ maxLen) : Row (Go.Lib.bytesWorld w 5 S) (some ⟨w.heap.size, 0, none⟩) S.size (grownCap w S.size 0 5) (strB S) where
  size := strB_length S
  le := grownCap_ge w S.size 0 _
  top := grownCap_le_maxLen w S.size 0 _ h
  nil := by intro h; cases h
  byte := strB_byte S
  cell := .inr ⟨w.heap.size, 0, rfl, fun i hi => by rw [Nat.zero_add, Go.Lib.bytesWorld_cell w _ S i hi, strB_getD S i hi]⟩

def Wor.body : Wor → List Int
  | .int n => putInt n
  | .text s => strB s
  | .oid _ _ _ z => putO z
  | _ => []

set_option maxRecDepth 100000 in
set_option maxHeartbeats 400000 in
theorem bodyOf_any (x : Wor) (w : World) (h : x.In w) (hs : x.str.size ≤ maxLen) :
    Calls Tryz.prog 106 #[x.v] w fun e w' => ∃ ao n cap, e = .returned (.slice ao n cap) ∧ Row w' ao n cap x.body ∧ Below w.heap.size w w' := by
  cases x with
  | int n =>
    show Calls Tryz.prog 106 #[.iface 166 (.int .i64 n)] w _
    have s1 := as_int_int
    go_enter Tryz.func106, Tryz.ntmps106
    go_wp2_with fail
    refine (implInt_made n _ rfl _).mono ?_
    rintro e w1 ⟨ao, cp, rfl, -, hr, hb⟩
    go_wp2
    go_ret
    exact ⟨_, _, _, rfl, hr, hb⟩
  | text s =>
    show Calls Tryz.prog 106 #[.iface 167 (.string s)] w _
    have s1 := as_text_int
    have s2 := as_text_text
    have hcv := Go.Lib.run_convert_string_bytes (P := Tryz.prog) w 167 22 5 s Tryz.underlying167 Tryz.underlying22 Tryz.underlying5
    have hbb := Go.Lib.bytesWorld_below w 5 s
    have hrr := row_str w s hs
    generalize Go.Lib.bytesWorld w 5 s = wb at hcv hbb hrr
    generalize grownCap w s.size 0 5 = gc at hcv hrr
    go_enter Tryz.func106, Tryz.ntmps106
    go_wp2
    go_ret
    exact ⟨_, _, _, rfl, hrr, hbb⟩
  | oid a l c z =>
    show Calls Tryz.prog 106 #[.iface 168 (.slice a l c)] w _
    have s1 := as_oid_int
    have s2 := as_oid_text
    have s3 := as_oid_oid
    have h' : IRow w a l c z := h
    go_enter Tryz.func106, Tryz.ntmps106
    go_wp2_with fail
    refine (implPut_made a l c z _ rfl _ h').mono ?_
    rintro e w1 ⟨ao, cp, rfl, -, hr, hb⟩
    go_wp2
    go_ret
    exact ⟨_, _, _, rfl, hr, hb⟩
  | null =>
    show Calls Tryz.prog 106 #[.iface 175 (.agg #[])] w _
    have s1 := as_null_int
    have s2 := as_null_text
    have s3 := as_null_oid
    go_enter Tryz.func106, Tryz.ntmps106
    go_wp2
    go_ret
    exact ⟨_, _, _, rfl, row_nil w, Below.refl _ _⟩
  | none =>
    show Calls Tryz.prog 106 #[.iface 176 (.agg #[])] w _
    have s1 := as_none_int
    have s2 := as_none_text
    have s3 := as_none_oid
    go_enter Tryz.func106, Tryz.ntmps106
    go_wp2
    go_ret
    exact ⟨_, _, _, rfl, row_nil w, Below.refl _ _⟩
  | last =>
    show Calls Tryz.prog 106 #[.iface 177 (.agg #[])] w _
    have s1 := as_end_int
    have s2 := as_end_text
    have s3 := as_end_oid
    go_enter Tryz.func106, Tryz.ntmps106
    go_wp2
    go_ret
    exact ⟨_, _, _, rfl, row_nil w, Below.refl _ _⟩

theorem wor_str {K N : Int} {S : ByteArray} {a1 : Option Addr} {l1 c1 : Nat} {z1 : List Int} {x : Wor} (h : worOf K N S a1 l1 c1 z1 = some x) : x.str = S ∨ x.str = ⟨#[]⟩ := by
  unfold worOf at h
  repeat' split at h
  all_goals first | (cases h; exact .inl rfl) | (cases h; exact .inr rfl) | cases h

theorem wor_body {K N : Int} {S : ByteArray} {a1 : Option Addr} {l1 c1 : Nat} {z1 : List Int} {x : Wor} (h : worOf K N S a1 l1 c1 z1 = some x) : x.body = bodyV K N S z1 := by
  unfold worOf at h
  unfold bodyV
  repeat' split at h
  all_goals first | cases h | skip
  all_goals subst K
  all_goals simp [Wor.body]

theorem body_small {K N : Int} {S : ByteArray} {z : List Int} (h : okV K N S z = true) : (bodyV K N S z).length ≤ 250 := by
  unfold bodyV
  split
  · have := putInt_length N; omega
  · split
    · subst K
      rw [strB_length]
      simp [okV] at h
      omega
    · split
      · have := put_length z; omega
      · simp

set_option maxRecDepth 100000 in
set_option maxHeartbeats 1000000 in
theorem implPutVal_any (a1 : Option Addr) (l1 c1 : Nat) (z1 : List Int) (K N : Int) (S : ByteArray) (a2 : Option Addr) (l2 c2 : Nat) (z2 : List Int) (w : World) (h1 : Row w a1 l1 c1 z1) (hS : S.size ≤ maxLen) (h2 : IRow w a2 l2 c2 z2) (hs : l1 ≤ 8000000) :
    Calls Tryz.prog 82 #[.slice a1 l1 c1, .agg #[.int .i64 K, .int .i64 N, .string S, .slice a2 l2 c2]] w fun e w' => ∃ ao n cap, e = .returned (.slice ao n cap) ∧
      w'.ownsRow w.heap.size 5 1 (.slice ao n cap) n (cB (putV z1 K N S z2)) ∧ Below w.heap.size w w' := by
  cases hk : okV K N S z2
  · have hP : putV z1 K N S z2 = z1 := by simp [putV, hk]
    rw [hP]
    clear hP
    have HK := hide hk
    clear hk
    go_enter Tryz.func82, Tryz.ntmps82
    go_wp2_with fail
    refine (implValOk_any K N S a2 l2 c2 z2 _ (h2.below (below_one _ _))).mono ?_
    rintro e w1 ⟨rfl, hb⟩
    rw [HK.out]
    have b1 : Below w.heap.size w w1 := (below_one w _).trans (hb.mono (below_one w _).size)
    clear hb
    go_wp2_with fail
    refine (pieces_any _ _ _ z1 _ _ _ [] _ (h1.below b1) (pieces_none _) (by simp [tot]; omega)).mono ?_
    rintro e w2 ⟨rfl, how2, hb2⟩
    go_wp2
    go_ret
    exact ⟨_, _, _, rfl, by simpa [tot, flat] using own_lt how2 b1.size, b1.trans (hb2.mono b1.size)⟩
  · have hP : putV z1 K N S z2 = putTlv z1 K (bodyV K N S z2) := by simp [putV, hk]
    have hsm := body_small hk
    rw [hP]
    clear hP
    have HK := hide hk
    cases hx : worOf K N S a2 l2 c2 z2 with
    | none => rw [ok_none hx] at hk; cases hk
    | some x =>
      have hin := wor_in h2 hx
      have hbo := wor_body hx
      have hst : x.str.size ≤ maxLen := by
        rcases wor_str hx with e | e <;> rw [e]
        · exact hS
        · exact Nat.zero_le _
      rw [← hbo] at hsm ⊢
      clear hk hbo
      have HX := hide hx
      clear hx
      go_enter Tryz.func82, Tryz.ntmps82
      go_wp2_with fail
      refine (implValOk_any K N S a2 l2 c2 z2 _ (h2.below (below_one _ _))).mono ?_
      rintro e w1 ⟨rfl, hb⟩
      rw [HK.out]
      have b1 : Below w.heap.size w w1 := (below_one w _).trans (hb.mono (below_one w _).size)
      have HKB := hide (kept_block (block_last w _) hb)
      obtain ⟨⟨x0, x1, x2, x3⟩, -⟩ := cells4 (kept_block (block_last w _) hb)
      have r1 := h1.below b1
      have hin1 := hin.below b1
      clear hb
      go_wp2_with fail
      go_region_held3 (fun W => W.cell? ⟨w.heap.size, 0, none⟩ = some (.int .i64 K) ∧ W.cell? ⟨w.heap.size, 1, none⟩ = some (.int .i64 N) ∧ W.cell? ⟨w.heap.size, 2, none⟩ = some (.string S) ∧ W.cell? ⟨w.heap.size, 3, none⟩ = some (.slice a2 l2 c2)) (first | exact (cells4 k4).1 | exact (cells4 k3).1 | exact (cells4 k2).1 | go_keep) (first
        | (go_at_call 107; refine (worthOf_any K N S a2 l2 c2 z2 _).mono ?_; rintro e w2 ⟨rfl, hb2⟩; rw [HX.out, show worV (some x) = x.v from rfl]; have k2 := kept_block HKB.out (undrew hb2))
        | (go_at_call 106; refine (bodyOf_any x _ (hin1.below (undrew hb2)) hst).mono ?_; rintro e w3 ⟨ao3, n3, cp3, rfl, r3, hb3⟩; have k3 := kept_block k2 hb3)
        | (go_at_call 27; refine (implTlv_any _ _ _ z1 K _ _ _ x.body _ (r1.below ((undrew hb2).trans (hb3.mono (undrew hb2).size))) r3 (by have := r3.size; omega)).mono ?_; rintro e w4 ⟨ao4, n4, cp4, rfl, ho4, hb4⟩; have k4 := kept_block k3 hb4))
      have b2 := b1.trans ((undrew hb2).mono b1.size)
      have b3 := b2.trans (hb3.mono b2.size)
      go_wp2
      go_ret
      exact ⟨_, _, _, rfl, own_lt ho4 b3.size, b3.trans (hb4.mono b3.size)⟩

set_option maxRecDepth 100000 in
set_option maxHeartbeats 1000000 in
theorem specPutVal_no (a1 : Option Addr) (l1 c1 : Nat) (z1 : List Int) (K : Int) (N : Int) (S : ByteArray) (a2 : Option Addr) (l2 c2 : Nat) (z2 : List Int) (w : World) (h1 : Row w a1 l1 c1 z1) (_hS : S.size ≤ maxLen) (h2 : IRow w a2 l2 c2 z2) (hs : l1 ≤ 8000000) (hk : okV K N S z2 = false) :
    Calls Tryz.prog 110 #[.slice a1 l1 c1, .agg #[.int .i64 K, .int .i64 N, .string S, .slice a2 l2 c2]] w fun e w' => ∃ ao n cap, e = .returned (.slice ao n cap) ∧
      w'.ownsRow w.heap.size 5 1 (.slice ao n cap) n (cB (putV z1 K N S z2)) ∧ Below w.heap.size w w' := by
  have hP : putV z1 K N S z2 = z1 := by simp [putV, hk]
  rw [hP]
  clear hP
  have HK := hide hk
  clear hk
  go_enter Tryz.func110, Tryz.ntmps110
  go_wp2_with fail
  refine (specValOk_any K N S a2 l2 c2 z2 _ (h2.below (below_one _ _))).mono ?_
  rintro e w1 ⟨rfl, hb⟩
  rw [HK.out]
  have b1 : Below w.heap.size w w1 := (below_one w _).trans (hb.mono (below_one w _).size)
  clear hb
  go_wp2_with (at_builtin; refine wpList_append_row _ rfl _ _ 22 rfl w1.heap.size Tryz.underlying22 Tryz.infoU8 _ 0 [] rfl (World.ownsRow_lit w1 #[] 0 (Nat.le_refl _) (Nat.zero_le _) rfl) (byte_nil) a1 l1 c1 z1 rfl ((h1.below b1).below (below_one _ _)) (by omega) (by simp) ?_)
  intro ao1 cp1 w2 how2 row2 hb2
  have hb2' : Below w1.heap.size w1 w2 := (below_one _ _).trans hb2
  go_wp2
  go_ret
  exact ⟨_, _, _, rfl, by simpa using own_lt how2 b1.size, b1.trans (hb2'.mono b1.size)⟩

set_option maxRecDepth 100000 in
set_option maxHeartbeats 1000000 in
theorem specPutVal_int (a1 : Option Addr) (l1 c1 : Nat) (z1 : List Int) (N : Int) (S : ByteArray) (a2 : Option Addr) (l2 c2 : Nat) (z2 : List Int) (w : World) (h1 : Row w a1 l1 c1 z1) (_hS : S.size ≤ maxLen) (h2 : IRow w a2 l2 c2 z2) (hs : l1 ≤ 8000000) (hk : okV 2 N S z2 = true) :
    Calls Tryz.prog 110 #[.slice a1 l1 c1, .agg #[.int .i64 2, .int .i64 N, .string S, .slice a2 l2 c2]] w fun e w' => ∃ ao n cap, e = .returned (.slice ao n cap) ∧
      w'.ownsRow w.heap.size 5 1 (.slice ao n cap) n (cB (putV z1 2 N S z2)) ∧ Below w.heap.size w w' := by
  have hP : putV z1 2 N S z2 = putTlv z1 2 (putInt N) := by simp [putV, hk, bodyV]
  have hsm := putInt_length N
  rw [hP]
  clear hP
  have HK := hide hk
  clear hk
  go_enter Tryz.func110, Tryz.ntmps110
  go_wp2_with fail
  refine (specValOk_any 2 N S a2 l2 c2 z2 _ (h2.below (below_one _ _))).mono ?_
  rintro e w1 ⟨rfl, hb⟩
  rw [HK.out]
  have b1 : Below w.heap.size w w1 := (below_one w _).trans (hb.mono (below_one w _).size)
  have HKB := kept_block (block_last w _) hb
  obtain ⟨⟨x0, x1, x2, x3⟩, -⟩ := cells4 HKB
  have r1 := h1.below b1
  clear hb
  obtain ⟨⟨x0, x1, x2, x3⟩, -⟩ := cells4 (kept_block HKB (below_one w1 (.cells #[] 5)))
  go_wp2_with fail
  refine (specInt_made N _ rfl _).mono ?_
  rintro e w2 ⟨ao2, cp2, rfl, -, r2, hb2⟩
  obtain ⟨⟨y0, y1, y2, y3⟩, -⟩ := cells4 (kept_block (kept_block HKB (below_one w1 (.cells #[] 5))) hb2)
  have b2' := ((below_one w1 (.cells #[] 5)).trans (hb2.mono (below_one w1 _).size))
  have b2 := b1.trans (b2'.mono b1.size)
  clear hb2 HKB x0 x1 x2 x3
  go_wp2_with fail
  refine (specTlv_any _ _ _ z1 2 _ _ _ _ _ (r1.below b2') r2 (by have := r2.size; omega)).mono ?_
  rintro e w3 ⟨ao3, n3, cp3, rfl, ho3, hb3⟩
  go_wp2
  go_ret
  exact ⟨_, _, _, rfl, own_lt ho3 b2.size, b2.trans (hb3.mono b2.size)⟩

set_option maxRecDepth 100000 in
set_option maxHeartbeats 1000000 in
theorem specPutVal_oid (a1 : Option Addr) (l1 c1 : Nat) (z1 : List Int) (N : Int) (S : ByteArray) (a2 : Option Addr) (l2 c2 : Nat) (z2 : List Int) (w : World) (h1 : Row w a1 l1 c1 z1) (_hS : S.size ≤ maxLen) (h2 : IRow w a2 l2 c2 z2) (hs : l1 ≤ 8000000) (hk : okV 6 N S z2 = true) :
    Calls Tryz.prog 110 #[.slice a1 l1 c1, .agg #[.int .i64 6, .int .i64 N, .string S, .slice a2 l2 c2]] w fun e w' => ∃ ao n cap, e = .returned (.slice ao n cap) ∧
      w'.ownsRow w.heap.size 5 1 (.slice ao n cap) n (cB (putV z1 6 N S z2)) ∧ Below w.heap.size w w' := by
  have hP : putV z1 6 N S z2 = putTlv z1 6 (putO z2) := by simp [putV, hk, bodyV]
  have hsm := put_length z2
  rw [hP]
  clear hP
  have HK := hide hk
  clear hk
  go_enter Tryz.func110, Tryz.ntmps110
  go_wp2_with fail
  refine (specValOk_any 6 N S a2 l2 c2 z2 _ (h2.below (below_one _ _))).mono ?_
  rintro e w1 ⟨rfl, hb⟩
  rw [HK.out]
  have b1 : Below w.heap.size w w1 := (below_one w _).trans (hb.mono (below_one w _).size)
  have HKB := kept_block (block_last w _) hb
  obtain ⟨⟨x0, x1, x2, x3⟩, -⟩ := cells4 HKB
  have r1 := h1.below b1
  clear hb
  have rz := (h2.below b1).below (below_one w1 (.cells #[] 5))
  obtain ⟨⟨x0, x1, x2, x3⟩, -⟩ := cells4 (kept_block HKB (below_one w1 (.cells #[] 5)))
  go_wp2_with fail
  refine (specPut_made a2 l2 c2 z2 _ rfl _ rz).mono ?_
  rintro e w2 ⟨ao2, cp2, rfl, -, r2, hb2⟩
  obtain ⟨⟨y0, y1, y2, y3⟩, -⟩ := cells4 (kept_block (kept_block HKB (below_one w1 (.cells #[] 5))) hb2)
  have b2' := ((below_one w1 (.cells #[] 5)).trans (hb2.mono (below_one w1 _).size))
  have b2 := b1.trans (b2'.mono b1.size)
  clear hb2 HKB x0 x1 x2 x3
  go_wp2_with fail
  refine (specTlv_any _ _ _ z1 6 _ _ _ _ _ (r1.below b2') r2 (by have := r2.size; omega)).mono ?_
  rintro e w3 ⟨ao3, n3, cp3, rfl, ho3, hb3⟩
  go_wp2
  go_ret
  exact ⟨_, _, _, rfl, own_lt ho3 b2.size, b2.trans (hb3.mono b2.size)⟩

set_option maxRecDepth 100000 in
set_option maxHeartbeats 1000000 in
theorem specPutVal_text (a1 : Option Addr) (l1 c1 : Nat) (z1 : List Int) (N : Int) (S : ByteArray) (a2 : Option Addr) (l2 c2 : Nat) (z2 : List Int) (w : World) (h1 : Row w a1 l1 c1 z1) (hS : S.size ≤ maxLen) (h2 : IRow w a2 l2 c2 z2) (hs : l1 ≤ 8000000) (hk : okV 4 N S z2 = true) :
    Calls Tryz.prog 110 #[.slice a1 l1 c1, .agg #[.int .i64 4, .int .i64 N, .string S, .slice a2 l2 c2]] w fun e w' => ∃ ao n cap, e = .returned (.slice ao n cap) ∧
      w'.ownsRow w.heap.size 5 1 (.slice ao n cap) n (cB (putV z1 4 N S z2)) ∧ Below w.heap.size w w' := by
  have hP : putV z1 4 N S z2 = putTlv z1 4 (strB S) := by simp [putV, hk, bodyV]
  have hsm : (strB S).length ≤ 250 := by have := body_small hk; simpa [bodyV] using this
  rw [hP]
  clear hP
  have HK := hide hk
  clear hk
  go_enter Tryz.func110, Tryz.ntmps110
  go_wp2_with fail
  refine (specValOk_any 4 N S a2 l2 c2 z2 _ (h2.below (below_one _ _))).mono ?_
  rintro e w1 ⟨rfl, hb⟩
  rw [HK.out]
  have b1 : Below w.heap.size w w1 := (below_one w _).trans (hb.mono (below_one w _).size)
  have HKB := kept_block (block_last w _) hb
  obtain ⟨⟨x0, x1, x2, x3⟩, -⟩ := cells4 HKB
  have r1 := h1.below b1
  clear hb
  obtain ⟨⟨x0, x1, x2, x3⟩, -⟩ := cells4 (kept_block HKB (below_one w1 (.cells #[] 5)))
  have hcv := Go.Lib.run_convert_string_bytes (P := Tryz.prog) (w1.alloc (.cells #[] 5)) 9 22 5 S Tryz.underlying9 Tryz.underlying22 Tryz.underlying5
  have hb2 := Go.Lib.bytesWorld_below (w1.alloc (.cells #[] 5)) 5 S
  have r2 := row_str (w1.alloc (.cells #[] 5)) S hS
  rw [show (w1.alloc (.cells #[] 5)).heap.size = w1.heap.size + 1 by simp] at r2
  generalize Go.Lib.bytesWorld (w1.alloc (.cells #[] 5)) 5 S = w2 at hcv hb2 r2
  generalize grownCap (w1.alloc (.cells #[] 5)) S.size 0 5 = gc at hcv r2
  obtain ⟨⟨y0, y1, y2, y3⟩, -⟩ := cells4 (kept_block (kept_block HKB (below_one w1 (.cells #[] 5))) hb2)
  have b2' := ((below_one w1 (.cells #[] 5)).trans (hb2.mono (below_one w1 _).size))
  have b2 := b1.trans (b2'.mono b1.size)
  clear hb2 HKB
  go_wp2_with fail
  refine (specTlv_any _ _ _ z1 4 _ _ _ _ _ (r1.below b2') r2 (by have := r2.size; omega)).mono ?_
  rintro e w3 ⟨ao3, n3, cp3, rfl, ho3, hb3⟩
  go_wp2
  go_ret
  exact ⟨_, _, _, rfl, own_lt ho3 b2.size, b2.trans (hb3.mono b2.size)⟩

set_option maxRecDepth 100000 in
set_option maxHeartbeats 1000000 in
theorem specPutVal_null (a1 : Option Addr) (l1 c1 : Nat) (z1 : List Int) (N : Int) (S : ByteArray) (a2 : Option Addr) (l2 c2 : Nat) (z2 : List Int) (w : World) (h1 : Row w a1 l1 c1 z1) (_hS : S.size ≤ maxLen) (h2 : IRow w a2 l2 c2 z2) (hs : l1 ≤ 8000000) (hk : okV 5 N S z2 = true) :
    Calls Tryz.prog 110 #[.slice a1 l1 c1, .agg #[.int .i64 5, .int .i64 N, .string S, .slice a2 l2 c2]] w fun e w' => ∃ ao n cap, e = .returned (.slice ao n cap) ∧
      w'.ownsRow w.heap.size 5 1 (.slice ao n cap) n (cB (putV z1 5 N S z2)) ∧ Below w.heap.size w w' := by
  have hP : putV z1 5 N S z2 = putTlv z1 5 [] := by simp [putV, hk, bodyV]
  rw [hP]
  clear hP
  have HK := hide hk
  clear hk
  go_enter Tryz.func110, Tryz.ntmps110
  go_wp2_with fail
  refine (specValOk_any 5 N S a2 l2 c2 z2 _ (h2.below (below_one _ _))).mono ?_
  rintro e w1 ⟨rfl, hb⟩
  rw [HK.out]
  have b1 : Below w.heap.size w w1 := (below_one w _).trans (hb.mono (below_one w _).size)
  have HKB := kept_block (block_last w _) hb
  obtain ⟨⟨x0, x1, x2, x3⟩, -⟩ := cells4 HKB
  have r1 := h1.below b1
  clear hb
  obtain ⟨⟨x0, x1, x2, x3⟩, -⟩ := cells4 (kept_block HKB (below_one w1 (.cells #[] 5)))
  have b2' := below_one w1 (.cells #[] 5)
  have b2 := b1.trans (b2'.mono b1.size)
  go_wp2_with fail
  refine (specTlv_any _ _ _ z1 5 _ _ _ [] _ (r1.below b2') (row_lit w1 _ [] 0 rfl rfl (by omega) byte_nil) (by omega)).mono ?_
  rintro e w3 ⟨ao3, n3, cp3, rfl, ho3, hb3⟩
  go_wp2
  go_ret
  exact ⟨_, _, _, rfl, own_lt ho3 b2.size, b2.trans (hb3.mono b2.size)⟩

set_option maxRecDepth 100000 in
set_option maxHeartbeats 1000000 in
theorem specPutVal_none (a1 : Option Addr) (l1 c1 : Nat) (z1 : List Int) (N : Int) (S : ByteArray) (a2 : Option Addr) (l2 c2 : Nat) (z2 : List Int) (w : World) (h1 : Row w a1 l1 c1 z1) (_hS : S.size ≤ maxLen) (h2 : IRow w a2 l2 c2 z2) (hs : l1 ≤ 8000000) (hk : okV 128 N S z2 = true) :
    Calls Tryz.prog 110 #[.slice a1 l1 c1, .agg #[.int .i64 128, .int .i64 N, .string S, .slice a2 l2 c2]] w fun e w' => ∃ ao n cap, e = .returned (.slice ao n cap) ∧
      w'.ownsRow w.heap.size 5 1 (.slice ao n cap) n (cB (putV z1 128 N S z2)) ∧ Below w.heap.size w w' := by
  have hP : putV z1 128 N S z2 = putTlv z1 128 [] := by simp [putV, hk, bodyV]
  rw [hP]
  clear hP
  have HK := hide hk
  clear hk
  go_enter Tryz.func110, Tryz.ntmps110
  go_wp2_with fail
  refine (specValOk_any 128 N S a2 l2 c2 z2 _ (h2.below (below_one _ _))).mono ?_
  rintro e w1 ⟨rfl, hb⟩
  rw [HK.out]
  have b1 : Below w.heap.size w w1 := (below_one w _).trans (hb.mono (below_one w _).size)
  have HKB := kept_block (block_last w _) hb
  obtain ⟨⟨x0, x1, x2, x3⟩, -⟩ := cells4 HKB
  have r1 := h1.below b1
  clear hb
  obtain ⟨⟨x0, x1, x2, x3⟩, -⟩ := cells4 (kept_block HKB (below_one w1 (.cells #[] 5)))
  have b2' := below_one w1 (.cells #[] 5)
  have b2 := b1.trans (b2'.mono b1.size)
  go_wp2_with fail
  refine (specTlv_any _ _ _ z1 128 _ _ _ [] _ (r1.below b2') (row_lit w1 _ [] 0 rfl rfl (by omega) byte_nil) (by omega)).mono ?_
  rintro e w3 ⟨ao3, n3, cp3, rfl, ho3, hb3⟩
  go_wp2
  go_ret
  exact ⟨_, _, _, rfl, own_lt ho3 b2.size, b2.trans (hb3.mono b2.size)⟩

set_option maxRecDepth 100000 in
set_option maxHeartbeats 1000000 in
theorem specPutVal_last (a1 : Option Addr) (l1 c1 : Nat) (z1 : List Int) (N : Int) (S : ByteArray) (a2 : Option Addr) (l2 c2 : Nat) (z2 : List Int) (w : World) (h1 : Row w a1 l1 c1 z1) (_hS : S.size ≤ maxLen) (h2 : IRow w a2 l2 c2 z2) (hs : l1 ≤ 8000000) (hk : okV 130 N S z2 = true) :
    Calls Tryz.prog 110 #[.slice a1 l1 c1, .agg #[.int .i64 130, .int .i64 N, .string S, .slice a2 l2 c2]] w fun e w' => ∃ ao n cap, e = .returned (.slice ao n cap) ∧
      w'.ownsRow w.heap.size 5 1 (.slice ao n cap) n (cB (putV z1 130 N S z2)) ∧ Below w.heap.size w w' := by
  have hP : putV z1 130 N S z2 = putTlv z1 130 [] := by simp [putV, hk, bodyV]
  rw [hP]
  clear hP
  have HK := hide hk
  clear hk
  go_enter Tryz.func110, Tryz.ntmps110
  go_wp2_with fail
  refine (specValOk_any 130 N S a2 l2 c2 z2 _ (h2.below (below_one _ _))).mono ?_
  rintro e w1 ⟨rfl, hb⟩
  rw [HK.out]
  have b1 : Below w.heap.size w w1 := (below_one w _).trans (hb.mono (below_one w _).size)
  have HKB := kept_block (block_last w _) hb
  obtain ⟨⟨x0, x1, x2, x3⟩, -⟩ := cells4 HKB
  have r1 := h1.below b1
  clear hb
  obtain ⟨⟨x0, x1, x2, x3⟩, -⟩ := cells4 (kept_block HKB (below_one w1 (.cells #[] 5)))
  have b2' := below_one w1 (.cells #[] 5)
  have b2 := b1.trans (b2'.mono b1.size)
  go_wp2_with fail
  refine (specTlv_any _ _ _ z1 130 _ _ _ [] _ (r1.below b2') (row_lit w1 _ [] 0 rfl rfl (by omega) byte_nil) (by omega)).mono ?_
  rintro e w3 ⟨ao3, n3, cp3, rfl, ho3, hb3⟩
  go_wp2
  go_ret
  exact ⟨_, _, _, rfl, own_lt ho3 b2.size, b2.trans (hb3.mono b2.size)⟩

set_option maxRecDepth 100000 in
set_option maxHeartbeats 1000000 in
theorem specPutVal_any (a1 : Option Addr) (l1 c1 : Nat) (z1 : List Int) (K : Int) (N : Int) (S : ByteArray) (a2 : Option Addr) (l2 c2 : Nat) (z2 : List Int) (w : World) (h1 : Row w a1 l1 c1 z1) (hS : S.size ≤ maxLen) (h2 : IRow w a2 l2 c2 z2) (hs : l1 ≤ 8000000) :
    Calls Tryz.prog 110 #[.slice a1 l1 c1, .agg #[.int .i64 K, .int .i64 N, .string S, .slice a2 l2 c2]] w fun e w' => ∃ ao n cap, e = .returned (.slice ao n cap) ∧
      w'.ownsRow w.heap.size 5 1 (.slice ao n cap) n (cB (putV z1 K N S z2)) ∧ Below w.heap.size w w' := by
  cases hk : okV K N S z2
  · exact specPutVal_no a1 l1 c1 z1 K N S a2 l2 c2 z2 w h1 hS h2 hs hk
  by_cases k5 : K = 5
  · subst k5; exact specPutVal_null a1 l1 c1 z1 N S a2 l2 c2 z2 w h1 hS h2 hs hk
  by_cases k128 : K = 128
  · subst k128; exact specPutVal_none a1 l1 c1 z1 N S a2 l2 c2 z2 w h1 hS h2 hs hk
  by_cases k130 : K = 130
  · subst k130; exact specPutVal_last a1 l1 c1 z1 N S a2 l2 c2 z2 w h1 hS h2 hs hk
  by_cases k2 : K = 2
  · subst k2; exact specPutVal_int a1 l1 c1 z1 N S a2 l2 c2 z2 w h1 hS h2 hs hk
  by_cases k4 : K = 4
  · subst k4; exact specPutVal_text a1 l1 c1 z1 N S a2 l2 c2 z2 w h1 hS h2 hs hk
  by_cases k6 : K = 6
  · subst k6; exact specPutVal_oid a1 l1 c1 z1 N S a2 l2 c2 z2 w h1 hS h2 hs hk
  simp [okV, k5, k128, k130, k2, k4, k6] at hk

theorem bodyV_byte (K N : Int) (S : ByteArray) (z : List Int) : Byt (bodyV K N S z) := by
  unfold bodyV
  split
  · exact putInt_byte N
  · split
    · exact strB_byte S
    · split
      · exact put_byte z
      · exact byte_nil
theorem putV_byte (b : List Int) (K N : Int) (S : ByteArray) (z : List Int) (hb : Byt b) : Byt (putV b K N S z) := by
  unfold putV
  split
  · exact putTlv_byte _ _ _ hb (bodyV_byte K N S z)
  · exact hb
theorem putV_length (b : List Int) (K N : Int) (S : ByteArray) (z : List Int) : (putV b K N S z).length ≤ b.length + 253 := by
  unfold putV
  split
  · have := putTlv_length b K (bodyV K N S z); have := body_small ‹_›; omega
  · omega

theorem specPutVal_made (a1 : Option Addr) (l1 c1 : Nat) (z1 : List Int) (K N : Int) (S : ByteArray) (a2 : Option Addr) (l2 c2 : Nat) (z2 P : List Int) (hP : putV z1 K N S z2 = P) (w : World) (h1 : Row w a1 l1 c1 z1) (hS : S.size ≤ maxLen) (h2 : IRow w a2 l2 c2 z2) (hs : l1 ≤ 8000000) :
    Calls Tryz.prog 110 #[.slice a1 l1 c1, .agg #[.int .i64 K, .int .i64 N, .string S, .slice a2 l2 c2]] w fun e w' => ∃ ao cap, e = .returned (.slice ao P.length cap) ∧
      w'.ownsRow w.heap.size 5 1 (.slice ao P.length cap) P.length (cB P) ∧ Row w' ao P.length cap P ∧ Below w.heap.size w w' := by
  subst hP
  exact (specPutVal_any a1 l1 c1 z1 K N S a2 l2 c2 z2 w h1 hS h2 hs).mono fun e w' h => made_of (putV_byte _ _ _ _ _ h1.byte) h
theorem implPutVal_made (a1 : Option Addr) (l1 c1 : Nat) (z1 : List Int) (K N : Int) (S : ByteArray) (a2 : Option Addr) (l2 c2 : Nat) (z2 P : List Int) (hP : putV z1 K N S z2 = P) (w : World) (h1 : Row w a1 l1 c1 z1) (hS : S.size ≤ maxLen) (h2 : IRow w a2 l2 c2 z2) (hs : l1 ≤ 8000000) :
    Calls Tryz.prog 82 #[.slice a1 l1 c1, .agg #[.int .i64 K, .int .i64 N, .string S, .slice a2 l2 c2]] w fun e w' => ∃ ao cap, e = .returned (.slice ao P.length cap) ∧
      w'.ownsRow w.heap.size 5 1 (.slice ao P.length cap) P.length (cB P) ∧ Row w' ao P.length cap P ∧ Below w.heap.size w w' := by
  subst hP
  exact (implPutVal_any a1 l1 c1 z1 K N S a2 l2 c2 z2 w h1 hS h2 hs).mono fun e w' h => made_of (putV_byte _ _ _ _ _ h1.byte) h

theorem kept_grown {w w' : World} {row : Option Nat} {i : Nat} {o : Obj} (h : w.heap[i]? = some o) (hg : w.grownBy w' row) (hne : ∀ k, row = some k → k ≠ i) : w'.heap[i]? = some o := by
  by_cases hlt : i < w.heap.size
  · rw [hg.block i hlt (fun e => hne i e.symm rfl)]; exact h
  · rw [Array.getElem?_eq_none (by omega)] at h; cases h

/-- Bytes as a text. -/
def byB (zs : List Int) : ByteArray := ⟨(zs.map fun z => UInt8.ofNat z.toNat).toArray⟩
theorem byB_size (zs : List Int) : (byB zs).size = zs.length := by
  show (zs.map fun z => UInt8.ofNat z.toNat).toArray.size = _
  rw [List.size_toArray, List.length_map]
theorem byte_back {z : Int} (h : 0 ≤ z ∧ z ≤ 255) : ((UInt8.ofNat z.toNat).toNat : Int) = z := by
  rw [UInt8.toNat_ofNat']
  omega
theorem strB_byB {zs : List Int} (h : Byt zs) : strB (byB zs) = zs := by
  show ((zs.map fun z => UInt8.ofNat z.toNat).toArray.toList).map (fun b => (b.toNat : Int)) = zs
  rw [List.toList_toArray, List.map_map]
  conv => rhs; rw [← List.map_id zs]
  exact List.map_congr_left (fun z hz => byte_back (h z hz))

theorem conv_row (dst : TypeId) (w : World) (ao : Option Addr) (l c : Nat) (zs : List Int) (h : Row w ao l c zs) (hd : Tryz.prog.underlying dst = some .string) : (convert 22 dst (.slice ao l c)).run Tryz.prog w = .ok (.string (byB zs)) w := by
  have hl : (zs.map fun z => UInt8.ofNat z.toNat).length = l := by rw [List.length_map]; exact h.size
  rcases ao with _ | a
  · obtain ⟨rfl, rfl⟩ := h.none_zero rfl
    have hz : zs = [] := List.eq_nil_of_length_eq_zero h.size
    subst hz
    rw [run_convert_bytes_string w 22 dst 5 none 0 0 Tryz.underlying22 Tryz.underlying5 hd]
    rfl
  · have := run_convert_bytes_back (P := Tryz.prog) w 22 dst 5 a c (zs.map fun z => UInt8.ofNat z.toNat) Tryz.underlying22 Tryz.underlying5 hd (by
      intro j hj
      have hj' : j < zs.length := by simpa using hj
      rw [h.news a rfl j _ (cB_get zs j hj')]
      have hb := getD_byte h.byte j
      have e : (zs.map fun z => UInt8.ofNat z.toNat)[j] = UInt8.ofNat (zs.getD j 0).toNat := by simp [List.getD_eq_getElem?_getD, hj']
      rw [e, byte_back hb])
    rw [hl] at this
    exact this

/-- What a kind's bytes say. -/
noncomputable def getBody (k : Int) (body : List Int) : Option (Int × Int × ByteArray × List Int) :=
  if k = 2 then (if (getInt body).2 = true then some (2, (getInt body).1, ⟨#[]⟩, []) else none)
  else if k = 4 then (if body.length ≤ 20 then some (4, 0, byB body, []) else none)
  else if k = 6 then (getO body).map (fun o => (6, 0, ⟨#[]⟩, o))
  else if (k = 5 ∨ k = 128 ∨ k = 130) ∧ body.length = 0 then some (k, 0, ⟨#[]⟩, []) else none

def zeroV : Int × Int × ByteArray × List Int × Int × Bool := (0, 0, ⟨#[]⟩, [], 0, false)

noncomputable def getV (zs : List Int) (t : Int) : Int × Int × ByteArray × List Int × Int × Bool :=
  if (getTlv zs t).2.2.2 = true then
    match getBody (getTlv zs t).1 (getTlv zs t).2.1 with
    | some (K, N, S, z) => (K, N, S, z, (getTlv zs t).2.2.1, true)
    | none => zeroV
  else zeroV

set_option maxRecDepth 100000 in
set_option maxHeartbeats 400000 in
theorem worthIn_int (a1 : Option Addr) (l1 c1 : Nat) (z1 : List Int) (n : Int) (ok : Bool) (hG : getInt z1 = (n, ok)) (w : World) (h1 : Row w a1 l1 c1 z1) (hs : l1 ≤ 16777216) :
    Calls Tryz.prog 133 #[.int .i64 2, .slice a1 l1 c1] w fun e w' => e = .returned (.tuple #[.iface 166 (.int .i64 n), .bool ok]) ∧ w' = w := by
  have HG := hide hG
  clear hG
  go_enter Tryz.func133, Tryz.ntmps133
  go_wp2_with fail
  refine (implGetInt_any a1 l1 c1 z1 _ h1 hs).mono ?_
  rintro e w1 ⟨rfl, rfl⟩
  rw [HG.out]
  go_wp2
  go_ret2
  exact ⟨rfl, rfl⟩

set_option maxRecDepth 100000 in
set_option maxHeartbeats 400000 in
theorem worthIn_text (a1 : Option Addr) (l1 c1 : Nat) (z1 : List Int) (w : World) (h1 : Row w a1 l1 c1 z1) :
    Calls Tryz.prog 133 #[.int .i64 4, .slice a1 l1 c1] w fun e w' => e = .returned (.tuple #[.iface 167 (.string (byB z1)), .bool (decide ((l1 : Int) ≤ 20))]) ∧ w' = w := by
  have hcv := conv_row 167 w a1 l1 c1 z1 h1 Tryz.underlying167
  go_enter Tryz.func133, Tryz.ntmps133
  go_wp2
  go_ret2
  exact ⟨rfl, rfl⟩

set_option maxRecDepth 100000 in
set_option maxHeartbeats 400000 in
theorem worthIn_oid (a1 : Option Addr) (l1 c1 : Nat) (z1 O : List Int) (ok : Bool) (hO : (getO z1).getD [] = O) (hok : (getO z1).isSome = ok) (w : World) (h1 : Row w a1 l1 c1 z1) (hs : l1 ≤ 1048576) :
    Calls Tryz.prog 133 #[.int .i64 6, .slice a1 l1 c1] w fun e w' => ∃ ao cap, e = .returned (.tuple #[.iface 168 (.slice ao O.length cap), .bool ok]) ∧
      w'.ownsRow w.heap.size 3 1 (.slice ao O.length cap) O.length (cI O) ∧ IRow w' ao O.length cap O ∧ Below w.heap.size w w' := by
  go_enter Tryz.func133, Tryz.ntmps133
  go_wp2_with fail
  refine (implGet_row a1 l1 c1 z1 O ok hO hok _ h1 hs).mono ?_
  rintro e w1 ⟨ao, cp, rfl, ho, hr, hb⟩
  go_wp2
  go_ret2
  exact ⟨_, _, rfl, ho, hr, hb⟩

theorem Wor.v_iface (x : Wor) : ∃ t v, x.v = .iface t v := by cases x <;> exact ⟨_, _, rfl⟩

set_option maxRecDepth 100000 in
set_option maxHeartbeats 400000 in
theorem worthIn_bare (k : Int) (a1 : Option Addr) (l1 c1 : Nat) (w : World) (k2 : ¬ k = 2) (k4 : ¬ k = 4) (k6 : ¬ k = 6) :
    Calls Tryz.prog 133 #[.int .i64 k, .slice a1 l1 c1] w fun e w' => e = .returned (.tuple #[worV (bareOf k), .bool ((bareOf k).isSome && ((l1 : Int) == 0))]) ∧ w' = w := by
  have t2 : (k == 2) = false := by simpa using k2
  have t4 : (k == 4) = false := by simpa using k4
  have t6 : (k == 6) = false := by simpa using k6
  clear k2 k4 k6
  cases hx : bareOf k with
  | none =>
    have HX := hide hx
    clear hx
    go_enter Tryz.func133, Tryz.ntmps133
    go_wp2_with fail
    refine (bare_any k _).mono ?_
    rintro e w1 ⟨rfl, rfl⟩
    rw [HX.out, show worV Option.none = .nilIface from rfl]
    go_wp2
    go_ret2
    exact ⟨rfl, rfl⟩
  | some x =>
    obtain ⟨ty, v, hv⟩ := x.v_iface
    have HX := hide hx
    have HV := hide hv
    clear hx hv
    go_enter Tryz.func133, Tryz.ntmps133
    go_wp2_with fail
    refine (bare_any k _).mono ?_
    rintro e w1 ⟨rfl, rfl⟩
    rw [HX.out, show worV (some x) = x.v from rfl, HV.out]
    go_wp2
    go_ret2
    exact ⟨ret_val (by rw [show worV (some x) = x.v from rfl, HV.out]; rfl), rfl⟩

theorem below_set4 {B : Nat} {a w : World} (h : Below B a w) {g : Nat} (hB : B ≤ g) (c0 c1 c2 c3 : Value) : Below B a ((((w.setCell ⟨g, 0, none⟩ c0).setCell ⟨g, 1, none⟩ c1).setCell ⟨g, 2, none⟩ c2).setCell ⟨g, 3, none⟩ c3) :=
  below_set (below_set (below_set (below_set h hB 0 c0) hB 1 c1) hB 2 c2) hB 3 c3
theorem own_set4 {w : World} {base : Nat} {e : TypeId} {v : Value} {n : Nat} {xs : List Value} (h : w.ownsRow base e 1 v n xs) {g : Nat} (hg : g < base) (c0 c1 c2 c3 : Value) : ((((w.setCell ⟨g, 0, none⟩ c0).setCell ⟨g, 1, none⟩ c1).setCell ⟨g, 2, none⟩ c2).setCell ⟨g, 3, none⟩ c3).ownsRow base e 1 v n xs :=
  own_set (own_set (own_set (own_set h hg) hg) hg) hg

set_option maxRecDepth 100000 in
set_option maxHeartbeats 1000000 in
theorem implGetVal_notlv (a1 : Option Addr) (l1 c1 : Nat) (z1 : List Int) (t : Int) (k : Int) (nx : Int) (body : List Int) (hT : getTlv z1 t = (k, body, nx, false)) (w : World) (h1 : Row w a1 l1 c1 z1) (hs : l1 ≤ 1048576) :
    Calls Tryz.prog 130 #[.slice a1 l1 c1, .int .i64 t] w fun e w' => ∃ ao cap, e = .returned (.tuple #[.agg #[.int .i64 0, .int .i64 0, .string ⟨#[]⟩, .slice ao ([] : List Int).length cap], .int .i64 0, .bool false]) ∧
      w'.ownsRow w.heap.size 3 1 (.slice ao ([] : List Int).length cap) ([] : List Int).length (cI ([] : List Int)) ∧ IRow w' ao ([] : List Int).length cap ([] : List Int) ∧ Below w.heap.size w w' := by
  have hbl : body.length ≤ 1048576 := by have := getTlv_length z1 t; rw [hT] at this; have := h1.size; simp at *; omega
  have HT := hide hT
  clear hT
  go_enter Tryz.func130, Tryz.ntmps130
  go_wp2_with fail
  refine (implGet_made _ _ _ z1 t k nx false body HT.out _ (h1.below (below_one _ _)) (by omega)).mono ?_
  rintro e w1 ⟨ao1, cp1, rfl, -, r1, hb1⟩
  have k1 := kept_block (block_last w _) hb1
  have b1 : Below w.heap.size w w1 := (below_one w _).trans (hb1.mono (below_one w _).size)
  have m1 : w.heap.size + 1 ≤ w1.heap.size := by have := hb1.size; simpa using this
  clear hb1
  clear r1 HT
  obtain ⟨⟨x0, x1, x2, x3⟩, f0, f1, f2, f3⟩ := cells4 k1
  go_wp2
  exact bodyPost_ret (v := .tuple #[.agg #[.int .i64 0, .int .i64 0, .string ⟨#[]⟩, .slice none 0 0], .int .i64 0, .bool false]) (by simp [results, Tryz.results130, go_sem, *]) rfl ⟨none, 0, rfl, World.ownsRow_nil _ _ _ _, irow_nil _, below_set4 b1 (Nat.le_refl _) _ _ _ _⟩

set_option maxRecDepth 100000 in
set_option maxHeartbeats 1000000 in
theorem implGetVal_int (a1 : Option Addr) (l1 c1 : Nat) (z1 : List Int) (t : Int) (n : Int) (nx : Int) (body : List Int) (hT : getTlv z1 t = (2, body, nx, true)) (w : World) (h1 : Row w a1 l1 c1 z1) (hs : l1 ≤ 1048576) (hN : getInt body = (n, true)) :
    Calls Tryz.prog 130 #[.slice a1 l1 c1, .int .i64 t] w fun e w' => ∃ ao cap, e = .returned (.tuple #[.agg #[.int .i64 2, .int .i64 n, .string ⟨#[]⟩, .slice ao ([] : List Int).length cap], .int .i64 nx, .bool true]) ∧
      w'.ownsRow w.heap.size 3 1 (.slice ao ([] : List Int).length cap) ([] : List Int).length (cI ([] : List Int)) ∧ IRow w' ao ([] : List Int).length cap ([] : List Int) ∧ Below w.heap.size w w' := by
  have hbl : body.length ≤ 1048576 := by have := getTlv_length z1 t; rw [hT] at this; have := h1.size; simp at *; omega
  have HT := hide hT
  clear hT
  go_enter Tryz.func130, Tryz.ntmps130
  go_wp2_with fail
  refine (implGet_made _ _ _ z1 t 2 nx true body HT.out _ (h1.below (below_one _ _)) (by omega)).mono ?_
  rintro e w1 ⟨ao1, cp1, rfl, -, r1, hb1⟩
  have k1 := kept_block (block_last w _) hb1
  have b1 : Below w.heap.size w w1 := (below_one w _).trans (hb1.mono (below_one w _).size)
  have m1 : w.heap.size + 1 ≤ w1.heap.size := by have := hb1.size; simpa using this
  clear hb1
  go_wp2_with fail
  refine (worthIn_int _ _ _ body n true hN _ r1 (by omega)).mono ?_
  rintro e w2 ⟨rfl, rfl⟩
  clear r1 HT hN
  go_wp2_with fail
  refine (valOf_any (.int n) _).mono ?_
  rintro e w3 ⟨rfl, hb3⟩
  rw [show (Wor.int n).kind = 2 from rfl, show (Wor.int n).num = n from rfl, show (Wor.int n).str = ⟨#[]⟩ from rfl, show (Wor.int n).sl = .slice none 0 0 from rfl]
  obtain ⟨⟨x0, x1, x2, x3⟩, f0, f1, f2, f3⟩ := cells4 (kept_block k1 hb3)
  have b3 := b1.trans (hb3.mono b1.size)
  clear k1 hb3
  go_wp2
  exact bodyPost_ret (v := .tuple #[.agg #[.int .i64 2, .int .i64 n, .string ⟨#[]⟩, .slice none 0 0], .int .i64 nx, .bool true]) (by simp [results, Tryz.results130, go_sem, *]) rfl ⟨none, 0, rfl, World.ownsRow_nil _ _ _ _, irow_nil _, below_set4 b3 (Nat.le_refl _) _ _ _ _⟩

set_option maxRecDepth 100000 in
set_option maxHeartbeats 1000000 in
theorem implGetVal_noint (a1 : Option Addr) (l1 c1 : Nat) (z1 : List Int) (t : Int) (n : Int) (nx : Int) (body : List Int) (hT : getTlv z1 t = (2, body, nx, true)) (w : World) (h1 : Row w a1 l1 c1 z1) (hs : l1 ≤ 1048576) (hN : getInt body = (n, false)) :
    Calls Tryz.prog 130 #[.slice a1 l1 c1, .int .i64 t] w fun e w' => ∃ ao cap, e = .returned (.tuple #[.agg #[.int .i64 0, .int .i64 0, .string ⟨#[]⟩, .slice ao ([] : List Int).length cap], .int .i64 0, .bool false]) ∧
      w'.ownsRow w.heap.size 3 1 (.slice ao ([] : List Int).length cap) ([] : List Int).length (cI ([] : List Int)) ∧ IRow w' ao ([] : List Int).length cap ([] : List Int) ∧ Below w.heap.size w w' := by
  have hbl : body.length ≤ 1048576 := by have := getTlv_length z1 t; rw [hT] at this; have := h1.size; simp at *; omega
  have HT := hide hT
  clear hT
  go_enter Tryz.func130, Tryz.ntmps130
  go_wp2_with fail
  refine (implGet_made _ _ _ z1 t 2 nx true body HT.out _ (h1.below (below_one _ _)) (by omega)).mono ?_
  rintro e w1 ⟨ao1, cp1, rfl, -, r1, hb1⟩
  have k1 := kept_block (block_last w _) hb1
  have b1 : Below w.heap.size w w1 := (below_one w _).trans (hb1.mono (below_one w _).size)
  have m1 : w.heap.size + 1 ≤ w1.heap.size := by have := hb1.size; simpa using this
  clear hb1
  go_wp2_with fail
  refine (worthIn_int _ _ _ body n false hN _ r1 (by omega)).mono ?_
  rintro e w2 ⟨rfl, rfl⟩
  clear r1 HT hN
  obtain ⟨⟨x0, x1, x2, x3⟩, f0, f1, f2, f3⟩ := cells4 k1
  go_wp2
  exact bodyPost_ret (v := .tuple #[.agg #[.int .i64 0, .int .i64 0, .string ⟨#[]⟩, .slice none 0 0], .int .i64 0, .bool false]) (by simp [results, Tryz.results130, go_sem, *]) rfl ⟨none, 0, rfl, World.ownsRow_nil _ _ _ _, irow_nil _, below_set4 b1 (Nat.le_refl _) _ _ _ _⟩

set_option maxRecDepth 100000 in
set_option maxHeartbeats 1000000 in
theorem implGetVal_text (a1 : Option Addr) (l1 c1 : Nat) (z1 : List Int) (t : Int) (nx : Int) (body : List Int) (hT : getTlv z1 t = (4, body, nx, true)) (w : World) (h1 : Row w a1 l1 c1 z1) (hs : l1 ≤ 1048576) (hL : body.length ≤ 20) :
    Calls Tryz.prog 130 #[.slice a1 l1 c1, .int .i64 t] w fun e w' => ∃ ao cap, e = .returned (.tuple #[.agg #[.int .i64 4, .int .i64 0, .string (byB body), .slice ao ([] : List Int).length cap], .int .i64 nx, .bool true]) ∧
      w'.ownsRow w.heap.size 3 1 (.slice ao ([] : List Int).length cap) ([] : List Int).length (cI ([] : List Int)) ∧ IRow w' ao ([] : List Int).length cap ([] : List Int) ∧ Below w.heap.size w w' := by
  have hbl : body.length ≤ 1048576 := by have := getTlv_length z1 t; rw [hT] at this; have := h1.size; simp at *; omega
  have HT := hide hT
  clear hT
  go_enter Tryz.func130, Tryz.ntmps130
  go_wp2_with fail
  refine (implGet_made _ _ _ z1 t 4 nx true body HT.out _ (h1.below (below_one _ _)) (by omega)).mono ?_
  rintro e w1 ⟨ao1, cp1, rfl, -, r1, hb1⟩
  have k1 := kept_block (block_last w _) hb1
  have b1 : Below w.heap.size w w1 := (below_one w _).trans (hb1.mono (below_one w _).size)
  have m1 : w.heap.size + 1 ≤ w1.heap.size := by have := hb1.size; simpa using this
  clear hb1
  go_wp2_with fail
  refine (worthIn_text _ _ _ body _ r1).mono ?_
  rintro e w2 ⟨rfl, rfl⟩
  rw [decide_eq_true (by omega : ((body.length : Int) ≤ 20))]
  clear r1 HT
  go_wp2_with fail
  refine (valOf_any (.text (byB body)) _).mono ?_
  rintro e w3 ⟨rfl, hb3⟩
  rw [show (Wor.text (byB body)).kind = 4 from rfl, show (Wor.text (byB body)).num = 0 from rfl, show (Wor.text (byB body)).str = byB body from rfl, show (Wor.text (byB body)).sl = .slice none 0 0 from rfl]
  obtain ⟨⟨x0, x1, x2, x3⟩, f0, f1, f2, f3⟩ := cells4 (kept_block k1 hb3)
  have b3 := b1.trans (hb3.mono b1.size)
  clear k1 hb3
  go_wp2
  exact bodyPost_ret (v := .tuple #[.agg #[.int .i64 4, .int .i64 0, .string (byB body), .slice none 0 0], .int .i64 nx, .bool true]) (by simp [results, Tryz.results130, go_sem, *]) rfl ⟨none, 0, rfl, World.ownsRow_nil _ _ _ _, irow_nil _, below_set4 b3 (Nat.le_refl _) _ _ _ _⟩

set_option maxRecDepth 100000 in
set_option maxHeartbeats 1000000 in
theorem implGetVal_notext (a1 : Option Addr) (l1 c1 : Nat) (z1 : List Int) (t : Int) (nx : Int) (body : List Int) (hT : getTlv z1 t = (4, body, nx, true)) (w : World) (h1 : Row w a1 l1 c1 z1) (hs : l1 ≤ 1048576) (hL : ¬ body.length ≤ 20) :
    Calls Tryz.prog 130 #[.slice a1 l1 c1, .int .i64 t] w fun e w' => ∃ ao cap, e = .returned (.tuple #[.agg #[.int .i64 0, .int .i64 0, .string ⟨#[]⟩, .slice ao ([] : List Int).length cap], .int .i64 0, .bool false]) ∧
      w'.ownsRow w.heap.size 3 1 (.slice ao ([] : List Int).length cap) ([] : List Int).length (cI ([] : List Int)) ∧ IRow w' ao ([] : List Int).length cap ([] : List Int) ∧ Below w.heap.size w w' := by
  have hbl : body.length ≤ 1048576 := by have := getTlv_length z1 t; rw [hT] at this; have := h1.size; simp at *; omega
  have HT := hide hT
  clear hT
  go_enter Tryz.func130, Tryz.ntmps130
  go_wp2_with fail
  refine (implGet_made _ _ _ z1 t 4 nx true body HT.out _ (h1.below (below_one _ _)) (by omega)).mono ?_
  rintro e w1 ⟨ao1, cp1, rfl, -, r1, hb1⟩
  have k1 := kept_block (block_last w _) hb1
  have b1 : Below w.heap.size w w1 := (below_one w _).trans (hb1.mono (below_one w _).size)
  have m1 : w.heap.size + 1 ≤ w1.heap.size := by have := hb1.size; simpa using this
  clear hb1
  go_wp2_with fail
  refine (worthIn_text _ _ _ body _ r1).mono ?_
  rintro e w2 ⟨rfl, rfl⟩
  rw [decide_eq_false (by omega : ¬ ((body.length : Int) ≤ 20))]
  clear r1 HT
  obtain ⟨⟨x0, x1, x2, x3⟩, f0, f1, f2, f3⟩ := cells4 k1
  go_wp2
  exact bodyPost_ret (v := .tuple #[.agg #[.int .i64 0, .int .i64 0, .string ⟨#[]⟩, .slice none 0 0], .int .i64 0, .bool false]) (by simp [results, Tryz.results130, go_sem, *]) rfl ⟨none, 0, rfl, World.ownsRow_nil _ _ _ _, irow_nil _, below_set4 b1 (Nat.le_refl _) _ _ _ _⟩

set_option maxRecDepth 100000 in
set_option maxHeartbeats 1000000 in
theorem implGetVal_oid (a1 : Option Addr) (l1 c1 : Nat) (z1 : List Int) (t : Int) (O : List Int) (nx : Int) (body : List Int) (hT : getTlv z1 t = (6, body, nx, true)) (w : World) (h1 : Row w a1 l1 c1 z1) (hs : l1 ≤ 1048576) (hO : getO body = some O) :
    Calls Tryz.prog 130 #[.slice a1 l1 c1, .int .i64 t] w fun e w' => ∃ ao cap, e = .returned (.tuple #[.agg #[.int .i64 6, .int .i64 0, .string ⟨#[]⟩, .slice ao O.length cap], .int .i64 nx, .bool true]) ∧
      w'.ownsRow w.heap.size 3 1 (.slice ao O.length cap) O.length (cI O) ∧ IRow w' ao O.length cap O ∧ Below w.heap.size w w' := by
  have hbl : body.length ≤ 1048576 := by have := getTlv_length z1 t; rw [hT] at this; have := h1.size; simp at *; omega
  have HT := hide hT
  clear hT
  go_enter Tryz.func130, Tryz.ntmps130
  go_wp2_with fail
  refine (implGet_made _ _ _ z1 t 6 nx true body HT.out _ (h1.below (below_one _ _)) (by omega)).mono ?_
  rintro e w1 ⟨ao1, cp1, rfl, -, r1, hb1⟩
  have k1 := kept_block (block_last w _) hb1
  have b1 : Below w.heap.size w w1 := (below_one w _).trans (hb1.mono (below_one w _).size)
  have m1 : w.heap.size + 1 ≤ w1.heap.size := by have := hb1.size; simpa using this
  clear hb1
  go_wp2_with fail
  refine (worthIn_oid _ _ _ body O true (by rw [hO]; rfl) (by rw [hO]; rfl) _ r1 (by omega)).mono ?_
  rintro e w2 ⟨ao2, cp2, rfl, ho2, r2, hb2⟩
  have b2 := b1.trans (hb2.mono b1.size)
  have k2 := kept_block k1 hb2
  have hby := r2.byte
  clear r1 HT hO hb2 k1 r2
  go_wp2_with fail
  refine (valOf_any (.oid ao2 O.length cp2 O) _).mono ?_
  rintro e w3 ⟨rfl, hb3⟩
  rw [show (Wor.oid ao2 O.length cp2 O).kind = 6 from rfl, show (Wor.oid ao2 O.length cp2 O).num = 0 from rfl, show (Wor.oid ao2 O.length cp2 O).str = ⟨#[]⟩ from rfl, show (Wor.oid ao2 O.length cp2 O).sl = .slice ao2 O.length cp2 from rfl]
  obtain ⟨⟨x0, x1, x2, x3⟩, f0, f1, f2, f3⟩ := cells4 (kept_block k2 hb3)
  have b3 := b2.trans (hb3.mono b2.size)
  have o3 := own_below ho2 hb3
  clear k2 hb3 ho2 b1 b2
  have HO3 := hide o3
  clear o3
  go_wp2
  have o4 := own_set4 (own_lt HO3.out m1) (g := w.heap.size) (by omega) (.int .i64 6) (.int .i64 0) (.string ⟨#[]⟩) (.slice ao2 O.length cp2)
  exact bodyPost_ret (v := .tuple #[.agg #[.int .i64 6, .int .i64 0, .string ⟨#[]⟩, .slice ao2 O.length cp2], .int .i64 nx, .bool true]) (by simp [results, Tryz.results130, go_sem, *]) rfl ⟨ao2, cp2, rfl, own_lt o4 (by omega), irow_own o4 hby, below_set4 b3 (Nat.le_refl _) _ _ _ _⟩

set_option maxRecDepth 100000 in
set_option maxHeartbeats 1000000 in
theorem implGetVal_nooid (a1 : Option Addr) (l1 c1 : Nat) (z1 : List Int) (t : Int) (nx : Int) (body : List Int) (hT : getTlv z1 t = (6, body, nx, true)) (w : World) (h1 : Row w a1 l1 c1 z1) (hs : l1 ≤ 1048576) (hO : getO body = none) :
    Calls Tryz.prog 130 #[.slice a1 l1 c1, .int .i64 t] w fun e w' => ∃ ao cap, e = .returned (.tuple #[.agg #[.int .i64 0, .int .i64 0, .string ⟨#[]⟩, .slice ao ([] : List Int).length cap], .int .i64 0, .bool false]) ∧
      w'.ownsRow w.heap.size 3 1 (.slice ao ([] : List Int).length cap) ([] : List Int).length (cI ([] : List Int)) ∧ IRow w' ao ([] : List Int).length cap ([] : List Int) ∧ Below w.heap.size w w' := by
  have hbl : body.length ≤ 1048576 := by have := getTlv_length z1 t; rw [hT] at this; have := h1.size; simp at *; omega
  have HT := hide hT
  clear hT
  go_enter Tryz.func130, Tryz.ntmps130
  go_wp2_with fail
  refine (implGet_made _ _ _ z1 t 6 nx true body HT.out _ (h1.below (below_one _ _)) (by omega)).mono ?_
  rintro e w1 ⟨ao1, cp1, rfl, -, r1, hb1⟩
  have k1 := kept_block (block_last w _) hb1
  have b1 : Below w.heap.size w w1 := (below_one w _).trans (hb1.mono (below_one w _).size)
  have m1 : w.heap.size + 1 ≤ w1.heap.size := by have := hb1.size; simpa using this
  clear hb1
  go_wp2_with fail
  refine (worthIn_oid _ _ _ body [] false (by rw [hO]; rfl) (by rw [hO]; rfl) _ r1 (by omega)).mono ?_
  rintro e w2 ⟨ao2, cp2, rfl, -, -, hb2⟩
  have b2 := b1.trans (hb2.mono b1.size)
  have k2 := kept_block k1 hb2
  clear r1 HT hO hb2 k1 b1
  obtain ⟨⟨x0, x1, x2, x3⟩, f0, f1, f2, f3⟩ := cells4 k2
  go_wp2
  exact bodyPost_ret (v := .tuple #[.agg #[.int .i64 0, .int .i64 0, .string ⟨#[]⟩, .slice none 0 0], .int .i64 0, .bool false]) (by simp [results, Tryz.results130, go_sem, *]) rfl ⟨none, 0, rfl, World.ownsRow_nil _ _ _ _, irow_nil _, below_set4 b2 (Nat.le_refl _) _ _ _ _⟩

theorem bare_some {k : Int} (h : k = 5 ∨ k = 128 ∨ k = 130) : ∃ x, bareOf k = some x ∧ x.kind = k ∧ x.num = 0 ∧ x.str = ⟨#[]⟩ ∧ x.sl = .slice none 0 0 := by
  rcases h with rfl | rfl | rfl
  · exact ⟨.null, rfl, rfl, rfl, rfl, rfl⟩
  · exact ⟨.none, rfl, rfl, rfl, rfl, rfl⟩
  · exact ⟨.last, rfl, rfl, rfl, rfl, rfl⟩

set_option maxRecDepth 100000 in
set_option maxHeartbeats 1000000 in
theorem implGetVal_bare (a1 : Option Addr) (l1 c1 : Nat) (z1 : List Int) (t : Int) (k : Int) (nx : Int) (body : List Int) (hT : getTlv z1 t = (k, body, nx, true)) (w : World) (h1 : Row w a1 l1 c1 z1) (hs : l1 ≤ 1048576) (k2 : ¬ k = 2) (k4 : ¬ k = 4) (k6 : ¬ k = 6) (hK : k = 5 ∨ k = 128 ∨ k = 130) (hL : body.length = 0) :
    Calls Tryz.prog 130 #[.slice a1 l1 c1, .int .i64 t] w fun e w' => ∃ ao cap, e = .returned (.tuple #[.agg #[.int .i64 k, .int .i64 0, .string ⟨#[]⟩, .slice ao ([] : List Int).length cap], .int .i64 nx, .bool true]) ∧
      w'.ownsRow w.heap.size 3 1 (.slice ao ([] : List Int).length cap) ([] : List Int).length (cI ([] : List Int)) ∧ IRow w' ao ([] : List Int).length cap ([] : List Int) ∧ Below w.heap.size w w' := by
  have hbl : body.length ≤ 1048576 := by have := getTlv_length z1 t; rw [hT] at this; have := h1.size; simp at *; omega
  have HL := hide hL
  clear hL
  have HT := hide hT
  clear hT
  go_enter Tryz.func130, Tryz.ntmps130
  go_wp2_with fail
  refine (implGet_made _ _ _ z1 t k nx true body HT.out _ (h1.below (below_one _ _)) (by omega)).mono ?_
  rintro e w1 ⟨ao1, cp1, rfl, -, r1, hb1⟩
  have k1 := kept_block (block_last w _) hb1
  have b1 : Below w.heap.size w w1 := (below_one w _).trans (hb1.mono (below_one w _).size)
  have m1 : w.heap.size + 1 ≤ w1.heap.size := by have := hb1.size; simpa using this
  clear hb1
  obtain ⟨x, hx, hxk, hxn, hxs, hxl⟩ := bare_some hK
  go_wp2_with fail
  refine (worthIn_bare k _ _ _ _ k2 k4 k6).mono ?_
  rintro e w2 ⟨rfl, rfl⟩
  rw [show ((bareOf k).isSome && ((body.length : Int) == 0)) = true by rw [hx, HL.out]; rfl, hx, show worV (some x) = x.v from rfl]
  clear r1 HT k2 k4 k6 HL hK hx
  have HX1 := hide hxk
  have HX2 := hide hxn
  have HX3 := hide hxs
  have HX4 := hide hxl
  clear hxk hxn hxs hxl
  go_wp2_with fail
  refine (valOf_any x _).mono ?_
  rintro e w3 ⟨rfl, hb3⟩
  rw [HX1.out, HX2.out, HX3.out, HX4.out]
  obtain ⟨⟨x0, x1, x2, x3⟩, f0, f1, f2, f3⟩ := cells4 (kept_block k1 hb3)
  have b3 := b1.trans (hb3.mono b1.size)
  clear k1 hb3
  go_wp2
  exact bodyPost_ret (v := .tuple #[.agg #[.int .i64 k, .int .i64 0, .string ⟨#[]⟩, .slice none 0 0], .int .i64 nx, .bool true]) (by simp [results, Tryz.results130, go_sem, *]) rfl ⟨none, 0, rfl, World.ownsRow_nil _ _ _ _, irow_nil _, below_set4 b3 (Nat.le_refl _) _ _ _ _⟩

set_option maxRecDepth 100000 in
set_option maxHeartbeats 1000000 in
theorem implGetVal_nobare (a1 : Option Addr) (l1 c1 : Nat) (z1 : List Int) (t : Int) (k : Int) (nx : Int) (body : List Int) (hT : getTlv z1 t = (k, body, nx, true)) (w : World) (h1 : Row w a1 l1 c1 z1) (hs : l1 ≤ 1048576) (k2 : ¬ k = 2) (k4 : ¬ k = 4) (k6 : ¬ k = 6) (hK : ((bareOf k).isSome && ((body.length : Int) == 0)) = false) :
    Calls Tryz.prog 130 #[.slice a1 l1 c1, .int .i64 t] w fun e w' => ∃ ao cap, e = .returned (.tuple #[.agg #[.int .i64 0, .int .i64 0, .string ⟨#[]⟩, .slice ao ([] : List Int).length cap], .int .i64 0, .bool false]) ∧
      w'.ownsRow w.heap.size 3 1 (.slice ao ([] : List Int).length cap) ([] : List Int).length (cI ([] : List Int)) ∧ IRow w' ao ([] : List Int).length cap ([] : List Int) ∧ Below w.heap.size w w' := by
  have hbl : body.length ≤ 1048576 := by have := getTlv_length z1 t; rw [hT] at this; have := h1.size; simp at *; omega
  have HT := hide hT
  clear hT
  go_enter Tryz.func130, Tryz.ntmps130
  go_wp2_with fail
  refine (implGet_made _ _ _ z1 t k nx true body HT.out _ (h1.below (below_one _ _)) (by omega)).mono ?_
  rintro e w1 ⟨ao1, cp1, rfl, -, r1, hb1⟩
  have k1 := kept_block (block_last w _) hb1
  have b1 : Below w.heap.size w w1 := (below_one w _).trans (hb1.mono (below_one w _).size)
  have m1 : w.heap.size + 1 ≤ w1.heap.size := by have := hb1.size; simpa using this
  clear hb1
  go_wp2_with fail
  refine (worthIn_bare k _ _ _ _ k2 k4 k6).mono ?_
  rintro e w2 ⟨rfl, rfl⟩
  rw [hK]
  clear r1 HT k2 k4 k6 hK
  obtain ⟨⟨x0, x1, x2, x3⟩, f0, f1, f2, f3⟩ := cells4 k1
  go_wp2
  exact bodyPost_ret (v := .tuple #[.agg #[.int .i64 0, .int .i64 0, .string ⟨#[]⟩, .slice none 0 0], .int .i64 0, .bool false]) (by simp [results, Tryz.results130, go_sem, *]) rfl ⟨none, 0, rfl, World.ownsRow_nil _ _ _ _, irow_nil _, below_set4 b1 (Nat.le_refl _) _ _ _ _⟩

theorem bare_is {k : Int} (h : (bareOf k).isSome = true) : k = 5 ∨ k = 128 ∨ k = 130 := by
  unfold bareOf at h
  repeat' split at h
  · exact .inl ‹_›
  · exact .inr (.inl ‹_›)
  · exact .inr (.inr ‹_›)
  · cases h

/-- All ways of a value that is read. -/
theorem getV_ways {z1 : List Int} {t K N : Int} {S : ByteArray} {O : List Int} {next : Int} {ok : Bool} (hG : getV z1 t = (K, N, S, O, next, ok)) {k : Int} {body : List Int} {nx : Int} {okT : Bool} (hT : getTlv z1 t = (k, body, nx, okT)) :
    (okT = false ∧ (K, N, S, O, next, ok) = zeroV) ∨
    (okT = true ∧ k = 2 ∧ (getInt body).2 = true ∧ (K, N, S, O, next, ok) = (2, (getInt body).1, ⟨#[]⟩, [], nx, true)) ∨
    (okT = true ∧ k = 2 ∧ (getInt body).2 = false ∧ (K, N, S, O, next, ok) = zeroV) ∨
    (okT = true ∧ k = 4 ∧ body.length ≤ 20 ∧ (K, N, S, O, next, ok) = (4, 0, byB body, [], nx, true)) ∨
    (okT = true ∧ k = 4 ∧ ¬ body.length ≤ 20 ∧ (K, N, S, O, next, ok) = zeroV) ∨
    (okT = true ∧ k = 6 ∧ ∃ o, getO body = some o ∧ (K, N, S, O, next, ok) = (6, 0, ⟨#[]⟩, o, nx, true)) ∨
    (okT = true ∧ k = 6 ∧ getO body = none ∧ (K, N, S, O, next, ok) = zeroV) ∨
    (okT = true ∧ (¬ k = 2 ∧ ¬ k = 4 ∧ ¬ k = 6) ∧ (k = 5 ∨ k = 128 ∨ k = 130) ∧ body.length = 0 ∧ (K, N, S, O, next, ok) = (k, 0, ⟨#[]⟩, [], nx, true)) ∨
    (okT = true ∧ (¬ k = 2 ∧ ¬ k = 4 ∧ ¬ k = 6) ∧ ((bareOf k).isSome && ((body.length : Int) == 0)) = false ∧ (K, N, S, O, next, ok) = zeroV) := by
  rw [← hG]
  cases okT
  · exact .inl ⟨rfl, by unfold getV; rw [hT]; simp⟩
  right
  have e : getV z1 t = (match getBody k body with | some (K, N, S, z) => (K, N, S, z, nx, true) | none => zeroV) := by unfold getV; rw [hT]; simp
  rw [e]
  by_cases k2 : k = 2
  · subst k2
    cases hi : (getInt body).2
    · right; left; exact ⟨rfl, rfl, rfl, by simp [getBody, hi]⟩
    · left; exact ⟨rfl, rfl, rfl, by simp [getBody, hi]⟩
  right; right
  by_cases k4 : k = 4
  · subst k4
    by_cases hl : body.length ≤ 20
    · left; exact ⟨rfl, rfl, hl, by simp [getBody, hl]⟩
    · right; left; exact ⟨rfl, rfl, hl, by simp [getBody, hl]⟩
  right; right
  by_cases k6 : k = 6
  · subst k6
    cases ho : getO body with
    | none => right; left; exact ⟨rfl, rfl, rfl, by simp [getBody, ho]⟩
    | some o => left; exact ⟨rfl, rfl, o, rfl, by simp [getBody, ho]⟩
  right; right
  by_cases hb : (k = 5 ∨ k = 128 ∨ k = 130) ∧ body.length = 0
  · left; exact ⟨rfl, ⟨k2, k4, k6⟩, hb.1, hb.2, by simp [getBody, k2, k4, k6, hb]⟩
  · right
    refine ⟨rfl, ⟨k2, k4, k6⟩, ?_, by unfold getBody; rw [if_neg k2, if_neg k4, if_neg k6, if_neg hb]⟩
    rw [Bool.eq_false_iff]
    intro h
    simp only [Bool.and_eq_true] at h
    exact hb ⟨bare_is h.1, by have := h.2; simp at this; exact List.length_eq_zero_iff.2 this⟩

theorem implGetVal_made (a1 : Option Addr) (l1 c1 : Nat) (z1 : List Int) (t K N : Int) (S : ByteArray) (O : List Int) (next : Int) (ok : Bool) (hG : getV z1 t = (K, N, S, O, next, ok)) (w : World) (h1 : Row w a1 l1 c1 z1) (hs : l1 ≤ 1048576) :
    Calls Tryz.prog 130 #[.slice a1 l1 c1, .int .i64 t] w fun e w' => ∃ ao cap, e = .returned (.tuple #[.agg #[.int .i64 K, .int .i64 N, .string S, .slice ao O.length cap], .int .i64 next, .bool ok]) ∧
      w'.ownsRow w.heap.size 3 1 (.slice ao O.length cap) O.length (cI O) ∧ IRow w' ao O.length cap O ∧ Below w.heap.size w w' := by
  rcases hT : getTlv z1 t with ⟨k, body, nx, okT⟩
  rcases getV_ways hG hT with ⟨rfl, e⟩ | ⟨rfl, rfl, hi, e⟩ | ⟨rfl, rfl, hi, e⟩ | ⟨rfl, rfl, hl, e⟩ | ⟨rfl, rfl, hl, e⟩ | ⟨rfl, rfl, o, ho, e⟩ | ⟨rfl, rfl, ho, e⟩ | ⟨rfl, ⟨k2, k4, k6⟩, hk, hl, e⟩ | ⟨rfl, ⟨k2, k4, k6⟩, hk, e⟩
  all_goals (cases e)
  · exact implGetVal_notlv a1 l1 c1 z1 t k nx body hT w h1 hs
  · exact implGetVal_int a1 l1 c1 z1 t _ _ body hT w h1 hs (Prod.ext rfl hi)
  · exact implGetVal_noint a1 l1 c1 z1 t _ _ body hT w h1 hs (Prod.ext rfl hi)
  · exact implGetVal_text a1 l1 c1 z1 t _ body hT w h1 hs hl
  · exact implGetVal_notext a1 l1 c1 z1 t _ body hT w h1 hs hl
  · exact implGetVal_oid a1 l1 c1 z1 t _ _ body hT w h1 hs ho
  · exact implGetVal_nooid a1 l1 c1 z1 t _ body hT w h1 hs ho
  · exact implGetVal_bare a1 l1 c1 z1 t _ _ body hT w h1 hs k2 k4 k6 hk hl
  · exact implGetVal_nobare a1 l1 c1 z1 t k nx body hT w h1 hs k2 k4 k6 hk

theorem getTlv_none {z : List Int} {t k nx : Int} {body : List Int} (h : getTlv z t = (k, body, nx, false)) : k = 0 ∧ body = [] ∧ nx = 0 := by
  unfold getTlv at h
  split at h
  · cases h; exact ⟨rfl, rfl, rfl⟩
  · split at h
    · cases h
    · cases h; exact ⟨rfl, rfl, rfl⟩

theorem set_other {w : World} {g i j : Nat} {u : Value} {o : Obj} (h : w.heap[i]? = some o) (hne : g ≠ i) : (w.setCell ⟨g, j, none⟩ u).heap[i]? = some o := by
  rw [Below.heap_setCell _ _ _ _ (by intro e; exact hne e.symm)]; exact h
theorem set_one {w : World} {g : Nat} {u c0 c1 c2 c3 : Value} {t : TypeId} (h : w.heap[g]? = some (.cells #[c0, c1, c2, c3] t)) : (w.setCell ⟨g, 1, none⟩ u).heap[g]? = some (.cells #[c0, u, c2, c3] t) := by
  simp [World.setCell, Array.getElem?_modify, h]
theorem set_three {w : World} {g : Nat} {u c0 c1 c2 c3 : Value} {t : TypeId} (h : w.heap[g]? = some (.cells #[c0, c1, c2, c3] t)) : (w.setCell ⟨g, 3, none⟩ u).heap[g]? = some (.cells #[c0, c1, c2, u] t) := by
  simp [World.setCell, Array.getElem?_modify, h]

theorem int_ok {body : List Int} (hb : Byt body) {n : Int} (h : getInt body = (n, true)) : okV 2 n ⟨#[]⟩ [] = true := by
  have hb : -2147483648 ≤ n ∧ n ≤ 2147483647 := by
    unfold getInt at h
    split at h
    · cases h
    · split at h
      · cases h; exact val_bd hb _ (by omega)
      · cases h
  have hc : clip n = n := by unfold clip; rw [if_neg (by omega), if_neg (by omega)]
  simp [okV, hc]
theorem text_ok {body : List Int} : okV 4 0 (byB body) [] = decide (body.length ≤ 20) := by
  simp [okV, byB_size]
  omega
theorem oid_ok {o : List Int} (h : oidOk o = true) : okV 6 0 ⟨#[]⟩ o = true := by
  simp [okV, h]
theorem bare_ok {k : Int} (k2 : ¬ k = 2) (k4 : ¬ k = 4) (k6 : ¬ k = 6) : okV k 0 ⟨#[]⟩ [] = (bareOf k).isSome := by
  unfold okV bareOf
  rw [if_neg k2, if_neg k4, if_neg k6]
  by_cases h5 : k = 5
  · simp [h5]
  by_cases h128 : k = 128
  · simp [h128]
  by_cases h130 : k = 130
  · simp [h130]
  simp [h5, h128, h130]

set_option maxRecDepth 100000 in
set_option maxHeartbeats 1000000 in
theorem specGetVal_notlv (a1 : Option Addr) (l1 c1 : Nat) (z1 : List Int) (t : Int) (nx : Int) (body : List Int) (hT : getTlv z1 t = (0, body, nx, false)) (w : World) (h1 : Row w a1 l1 c1 z1) (hs : l1 ≤ 1048576) :
    Calls Tryz.prog 99 #[.slice a1 l1 c1, .int .i64 t] w fun e w' => ∃ ao cap, e = .returned (.tuple #[.agg #[.int .i64 0, .int .i64 0, .string ⟨#[]⟩, .slice ao ([] : List Int).length cap], .int .i64 0, .bool false]) ∧
      w'.ownsRow w.heap.size 3 1 (.slice ao ([] : List Int).length cap) ([] : List Int).length (cI ([] : List Int)) ∧ IRow w' ao ([] : List Int).length cap ([] : List Int) ∧ Below w.heap.size w w' := by
  have hbl : body.length ≤ 1048576 := by have := getTlv_length z1 t; rw [hT] at this; have := h1.size; simp at *; omega
  have HT := hide hT
  clear hT
  go_enter Tryz.func99, Tryz.ntmps99
  go_wp2_with fail
  refine (specGet_made _ _ _ z1 t 0 nx false body HT.out _ (h1.below (below_one _ _)) (by omega)).mono ?_
  rintro e w1 ⟨ao1, cp1, rfl, -, r1, hb1⟩
  have k1 := kept_block (block_last w _) hb1
  have b1 : Below w.heap.size w w1 := (below_one w _).trans (hb1.mono (below_one w _).size)
  have m1 : w.heap.size + 1 ≤ w1.heap.size := by have := hb1.size; simpa using this
  clear hb1 HT
  clear r1
  obtain ⟨⟨x0, x1, x2, x3⟩, f0, f1, f2, f3⟩ := cells4 (kept_block k1 (below_one w1 (.cells #[.int .i64 0, .int .i64 0, .string ⟨#[]⟩, .slice none 0 0] 81)))
  have b2 := b1.trans ((below_one w1 (.cells #[.int .i64 0, .int .i64 0, .string ⟨#[]⟩, .slice none 0 0] 81)).mono b1.size)
  clear k1 b1
  go_wp2
  exact bodyPost_ret (v := .tuple #[.agg #[.int .i64 0, .int .i64 0, .string ⟨#[]⟩, .slice none 0 0], .int .i64 0, .bool false]) (by simp [results, Tryz.results99, go_sem, *]) rfl ⟨none, 0, rfl, World.ownsRow_nil _ _ _ _, irow_nil _, below_set4 b2 (Nat.le_refl _) _ _ _ _⟩

set_option maxRecDepth 100000 in
set_option maxHeartbeats 1000000 in
theorem specGetVal_int (a1 : Option Addr) (l1 c1 : Nat) (z1 : List Int) (t : Int) (n : Int) (nx : Int) (body : List Int) (hT : getTlv z1 t = (2, body, nx, true)) (w : World) (h1 : Row w a1 l1 c1 z1) (hs : l1 ≤ 1048576) (hN : getInt body = (n, true)) :
    Calls Tryz.prog 99 #[.slice a1 l1 c1, .int .i64 t] w fun e w' => ∃ ao cap, e = .returned (.tuple #[.agg #[.int .i64 2, .int .i64 n, .string ⟨#[]⟩, .slice ao ([] : List Int).length cap], .int .i64 nx, .bool true]) ∧
      w'.ownsRow w.heap.size 3 1 (.slice ao ([] : List Int).length cap) ([] : List Int).length (cI ([] : List Int)) ∧ IRow w' ao ([] : List Int).length cap ([] : List Int) ∧ Below w.heap.size w w' := by
  have hbl : body.length ≤ 1048576 := by have := getTlv_length z1 t; rw [hT] at this; have := h1.size; simp at *; omega
  have hby : Byt body := by have := getTlv_byte z1 t h1.byte; rw [hT] at this; exact this
  have HOK := hide (int_ok hby hN)
  have HN := hide hN
  clear hN hby
  have HT := hide hT
  clear hT
  go_enter Tryz.func99, Tryz.ntmps99
  go_wp2_with fail
  refine (specGet_made _ _ _ z1 t 2 nx true body HT.out _ (h1.below (below_one _ _)) (by omega)).mono ?_
  rintro e w1 ⟨ao1, cp1, rfl, -, r1, hb1⟩
  have k1 := kept_block (block_last w _) hb1
  have b1 : Below w.heap.size w w1 := (below_one w _).trans (hb1.mono (below_one w _).size)
  have m1 : w.heap.size + 1 ≤ w1.heap.size := by have := hb1.size; simpa using this
  clear hb1 HT
  have b2 := b1.trans ((below_one w1 (.cells #[.int .i64 2, .int .i64 0, .string ⟨#[]⟩, .slice none 0 0] 81)).mono b1.size)
  have kz := kept_block k1 (below_one w1 (.cells #[.int .i64 2, .int .i64 0, .string ⟨#[]⟩, .slice none 0 0] 81))
  go_wp2_with fail
  refine (specGetInt_any _ _ _ body _ (r1.below (below_one _ _)) (by omega)).mono ?_
  rintro e w2 ⟨rfl, hb2⟩
  rw [HN.out]
  have kv := kept_block (block_last w1 _) hb2
  have kz := kept_block kz hb2
  have b3 := b2.trans (hb2.mono b2.size)
  obtain ⟨⟨x0, x1, x2, x3⟩, f0, f1, f2, f3⟩ := cells4 kv
  have kv := set_one (u := .int .i64 n) kv
  have kz := set_other (g := w1.heap.size) (j := 1) (u := .int .i64 n) kz (by omega)
  have b3 := below_set b3 (g := w1.heap.size) (by omega) 1 (.int .i64 n)
  clear hb2 b2 k1 b1 r1
  have KV := hide kv
  have KZ := hide kz
  clear kv kz
  go_wp2_with fail
  generalize w2.setCell ⟨w1.heap.size, 1, none⟩ (.int .i64 n) = W2 at *
  refine (specValOk_any 2 n ⟨#[]⟩ none 0 0 [] _ (irow_nil _)).mono ?_
  rintro e w3 ⟨rfl, hb3⟩
  rw [HOK.out]
  clear x0 x1 x2 x3 f0 f1 f2 f3
  obtain ⟨⟨x0, x1, x2, x3⟩, -⟩ := cells4 (kept_block KV.out hb3)
  obtain ⟨⟨y0, y1, y2, y3⟩, f0, f1, f2, f3⟩ := cells4 (kept_block KZ.out hb3)
  have b4 := b3.trans (hb3.mono b3.size)
  clear hb3 b3 KV KZ
  go_wp2
  exact bodyPost_ret (v := .tuple #[.agg #[.int .i64 2, .int .i64 n, .string ⟨#[]⟩, .slice none 0 0], .int .i64 nx, .bool true]) (by simp [results, Tryz.results99, go_sem, *]) rfl ⟨none, 0, rfl, World.ownsRow_nil _ _ _ _, irow_nil _, below_set4 b4 (Nat.le_refl _) _ _ _ _⟩

set_option maxRecDepth 100000 in
set_option maxHeartbeats 1000000 in
theorem specGetVal_noint (a1 : Option Addr) (l1 c1 : Nat) (z1 : List Int) (t : Int) (n : Int) (nx : Int) (body : List Int) (hT : getTlv z1 t = (2, body, nx, true)) (w : World) (h1 : Row w a1 l1 c1 z1) (hs : l1 ≤ 1048576) (hN : getInt body = (n, false)) :
    Calls Tryz.prog 99 #[.slice a1 l1 c1, .int .i64 t] w fun e w' => ∃ ao cap, e = .returned (.tuple #[.agg #[.int .i64 0, .int .i64 0, .string ⟨#[]⟩, .slice ao ([] : List Int).length cap], .int .i64 0, .bool false]) ∧
      w'.ownsRow w.heap.size 3 1 (.slice ao ([] : List Int).length cap) ([] : List Int).length (cI ([] : List Int)) ∧ IRow w' ao ([] : List Int).length cap ([] : List Int) ∧ Below w.heap.size w w' := by
  have hbl : body.length ≤ 1048576 := by have := getTlv_length z1 t; rw [hT] at this; have := h1.size; simp at *; omega
  have HN := hide hN
  clear hN
  have HT := hide hT
  clear hT
  go_enter Tryz.func99, Tryz.ntmps99
  go_wp2_with fail
  refine (specGet_made _ _ _ z1 t 2 nx true body HT.out _ (h1.below (below_one _ _)) (by omega)).mono ?_
  rintro e w1 ⟨ao1, cp1, rfl, -, r1, hb1⟩
  have k1 := kept_block (block_last w _) hb1
  have b1 : Below w.heap.size w w1 := (below_one w _).trans (hb1.mono (below_one w _).size)
  have m1 : w.heap.size + 1 ≤ w1.heap.size := by have := hb1.size; simpa using this
  clear hb1 HT
  have b2 := b1.trans ((below_one w1 (.cells #[.int .i64 2, .int .i64 0, .string ⟨#[]⟩, .slice none 0 0] 81)).mono b1.size)
  have kz := kept_block k1 (below_one w1 (.cells #[.int .i64 2, .int .i64 0, .string ⟨#[]⟩, .slice none 0 0] 81))
  go_wp2_with fail
  refine (specGetInt_any _ _ _ body _ (r1.below (below_one _ _)) (by omega)).mono ?_
  rintro e w2 ⟨rfl, hb2⟩
  rw [HN.out]
  have kv := kept_block (block_last w1 _) hb2
  have kz := kept_block kz hb2
  have b3 := b2.trans (hb2.mono b2.size)
  obtain ⟨⟨x0, x1, x2, x3⟩, f0, f1, f2, f3⟩ := cells4 kv
  have kv := set_one (u := .int .i64 n) kv
  have kz := set_other (g := w1.heap.size) (j := 1) (u := .int .i64 n) kz (by omega)
  have b3 := below_set b3 (g := w1.heap.size) (by omega) 1 (.int .i64 n)
  clear hb2 b2 k1 b1 r1
  obtain ⟨⟨y0, y1, y2, y3⟩, d0, d1, d2, d3⟩ := cells4 kz
  clear kz kv
  go_wp2
  exact bodyPost_ret (v := .tuple #[.agg #[.int .i64 0, .int .i64 0, .string ⟨#[]⟩, .slice none 0 0], .int .i64 0, .bool false]) (by simp [results, Tryz.results99, go_sem, *]) rfl ⟨none, 0, rfl, World.ownsRow_nil _ _ _ _, irow_nil _, below_set4 b3 (Nat.le_refl _) _ _ _ _⟩

set_option maxRecDepth 100000 in
set_option maxHeartbeats 1000000 in
theorem specGetVal_text (a1 : Option Addr) (l1 c1 : Nat) (z1 : List Int) (t : Int) (nx : Int) (body : List Int) (hT : getTlv z1 t = (4, body, nx, true)) (w : World) (h1 : Row w a1 l1 c1 z1) (hs : l1 ≤ 1048576) (hL : body.length ≤ 20) :
    Calls Tryz.prog 99 #[.slice a1 l1 c1, .int .i64 t] w fun e w' => ∃ ao cap, e = .returned (.tuple #[.agg #[.int .i64 4, .int .i64 0, .string (byB body), .slice ao ([] : List Int).length cap], .int .i64 nx, .bool true]) ∧
      w'.ownsRow w.heap.size 3 1 (.slice ao ([] : List Int).length cap) ([] : List Int).length (cI ([] : List Int)) ∧ IRow w' ao ([] : List Int).length cap ([] : List Int) ∧ Below w.heap.size w w' := by
  have hbl : body.length ≤ 1048576 := by have := getTlv_length z1 t; rw [hT] at this; have := h1.size; simp at *; omega
  have hok : okV 4 0 (byB body) [] = true := by rw [text_ok]; exact decide_eq_true hL
  generalize hSB : byB body = S at *
  have HS := hide hSB
  have HOK := hide hok
  clear hSB hok
  have HT := hide hT
  clear hT
  go_enter Tryz.func99, Tryz.ntmps99
  go_wp2_with fail
  refine (specGet_made _ _ _ z1 t 4 nx true body HT.out _ (h1.below (below_one _ _)) (by omega)).mono ?_
  rintro e w1 ⟨ao1, cp1, rfl, -, r1, hb1⟩
  have k1 := kept_block (block_last w _) hb1
  have b1 : Below w.heap.size w w1 := (below_one w _).trans (hb1.mono (below_one w _).size)
  have m1 : w.heap.size + 1 ≤ w1.heap.size := by have := hb1.size; simpa using this
  clear hb1 HT
  have hcv := conv_row 9 (w1.alloc (.cells #[.int .i64 4, .int .i64 0, .string ⟨#[]⟩, .slice none 0 0] 81)) ao1 body.length cp1 body (r1.below (below_one _ _)) Tryz.underlying9
  rw [HS.out] at hcv
  have kv := block_last w1 (.cells #[.int .i64 4, .int .i64 0, .string S, .slice none 0 0] 81)
  have kz := kept_block k1 (below_one w1 (.cells #[.int .i64 4, .int .i64 0, .string S, .slice none 0 0] 81))
  have b2 := b1.trans ((below_one w1 (.cells #[.int .i64 4, .int .i64 0, .string S, .slice none 0 0] 81)).mono b1.size)
  have KV := hide kv
  have KZ := hide kz
  clear kv kz k1 b1 r1
  go_wp2_with fail
  generalize w1.alloc (.cells #[.int .i64 4, .int .i64 0, .string S, .slice none 0 0] 81) = W2 at *
  refine (specValOk_any 4 0 S none 0 0 [] _ (irow_nil _)).mono ?_
  rintro e w3 ⟨rfl, hb3⟩
  rw [HOK.out]
  obtain ⟨⟨x0, x1, x2, x3⟩, -⟩ := cells4 (kept_block KV.out hb3)
  obtain ⟨⟨y0, y1, y2, y3⟩, f0, f1, f2, f3⟩ := cells4 (kept_block KZ.out hb3)
  have b4 := b2.trans (hb3.mono b2.size)
  clear hb3 b2 KV KZ
  go_wp2
  exact bodyPost_ret (v := .tuple #[.agg #[.int .i64 4, .int .i64 0, .string S, .slice none 0 0], .int .i64 nx, .bool true]) (by simp [results, Tryz.results99, go_sem, *]) rfl ⟨none, 0, rfl, World.ownsRow_nil _ _ _ _, irow_nil _, below_set4 b4 (Nat.le_refl _) _ _ _ _⟩

set_option maxRecDepth 100000 in
set_option maxHeartbeats 1000000 in
theorem specGetVal_notext (a1 : Option Addr) (l1 c1 : Nat) (z1 : List Int) (t : Int) (nx : Int) (body : List Int) (hT : getTlv z1 t = (4, body, nx, true)) (w : World) (h1 : Row w a1 l1 c1 z1) (hs : l1 ≤ 1048576) (hL : ¬ body.length ≤ 20) :
    Calls Tryz.prog 99 #[.slice a1 l1 c1, .int .i64 t] w fun e w' => ∃ ao cap, e = .returned (.tuple #[.agg #[.int .i64 0, .int .i64 0, .string ⟨#[]⟩, .slice ao ([] : List Int).length cap], .int .i64 0, .bool false]) ∧
      w'.ownsRow w.heap.size 3 1 (.slice ao ([] : List Int).length cap) ([] : List Int).length (cI ([] : List Int)) ∧ IRow w' ao ([] : List Int).length cap ([] : List Int) ∧ Below w.heap.size w w' := by
  have hbl : body.length ≤ 1048576 := by have := getTlv_length z1 t; rw [hT] at this; have := h1.size; simp at *; omega
  have hok : okV 4 0 (byB body) [] = false := by rw [text_ok]; exact decide_eq_false hL
  generalize hSB : byB body = S at *
  have HS := hide hSB
  have HOK := hide hok
  clear hSB hok
  have HT := hide hT
  clear hT
  go_enter Tryz.func99, Tryz.ntmps99
  go_wp2_with fail
  refine (specGet_made _ _ _ z1 t 4 nx true body HT.out _ (h1.below (below_one _ _)) (by omega)).mono ?_
  rintro e w1 ⟨ao1, cp1, rfl, -, r1, hb1⟩
  have k1 := kept_block (block_last w _) hb1
  have b1 : Below w.heap.size w w1 := (below_one w _).trans (hb1.mono (below_one w _).size)
  have m1 : w.heap.size + 1 ≤ w1.heap.size := by have := hb1.size; simpa using this
  clear hb1 HT
  have hcv := conv_row 9 (w1.alloc (.cells #[.int .i64 4, .int .i64 0, .string ⟨#[]⟩, .slice none 0 0] 81)) ao1 body.length cp1 body (r1.below (below_one _ _)) Tryz.underlying9
  rw [HS.out] at hcv
  have kv := block_last w1 (.cells #[.int .i64 4, .int .i64 0, .string S, .slice none 0 0] 81)
  have kz := kept_block k1 (below_one w1 (.cells #[.int .i64 4, .int .i64 0, .string S, .slice none 0 0] 81))
  have b2 := b1.trans ((below_one w1 (.cells #[.int .i64 4, .int .i64 0, .string S, .slice none 0 0] 81)).mono b1.size)
  have KV := hide kv
  have KZ := hide kz
  clear kv kz k1 b1 r1
  go_wp2_with fail
  generalize w1.alloc (.cells #[.int .i64 4, .int .i64 0, .string S, .slice none 0 0] 81) = W2 at *
  refine (specValOk_any 4 0 S none 0 0 [] _ (irow_nil _)).mono ?_
  rintro e w3 ⟨rfl, hb3⟩
  rw [HOK.out]
  obtain ⟨⟨x0, x1, x2, x3⟩, -⟩ := cells4 (kept_block KV.out hb3)
  obtain ⟨⟨y0, y1, y2, y3⟩, f0, f1, f2, f3⟩ := cells4 (kept_block KZ.out hb3)
  have b4 := b2.trans (hb3.mono b2.size)
  clear hb3 b2 KV KZ
  go_wp2
  exact bodyPost_ret (v := .tuple #[.agg #[.int .i64 0, .int .i64 0, .string ⟨#[]⟩, .slice none 0 0], .int .i64 0, .bool false]) (by simp [results, Tryz.results99, go_sem, *]) rfl ⟨none, 0, rfl, World.ownsRow_nil _ _ _ _, irow_nil _, below_set4 b4 (Nat.le_refl _) _ _ _ _⟩

set_option maxRecDepth 100000 in
set_option maxHeartbeats 1000000 in
theorem specGetVal_oid (a1 : Option Addr) (l1 c1 : Nat) (z1 : List Int) (t : Int) (O : List Int) (nx : Int) (body : List Int) (hT : getTlv z1 t = (6, body, nx, true)) (w : World) (h1 : Row w a1 l1 c1 z1) (hs : l1 ≤ 1048576) (hO : getO body = some O) :
    Calls Tryz.prog 99 #[.slice a1 l1 c1, .int .i64 t] w fun e w' => ∃ ao cap, e = .returned (.tuple #[.agg #[.int .i64 6, .int .i64 0, .string ⟨#[]⟩, .slice ao O.length cap], .int .i64 nx, .bool true]) ∧
      w'.ownsRow w.heap.size 3 1 (.slice ao O.length cap) O.length (cI O) ∧ IRow w' ao O.length cap O ∧ Below w.heap.size w w' := by
  have hbl : body.length ≤ 1048576 := by have := getTlv_length z1 t; rw [hT] at this; have := h1.size; simp at *; omega
  have HOK := hide (oid_ok (getO_is hO).1)
  have HO := hide hO
  clear hO
  have HT := hide hT
  clear hT
  go_enter Tryz.func99, Tryz.ntmps99
  go_wp2_with fail
  refine (specGet_made _ _ _ z1 t 6 nx true body HT.out _ (h1.below (below_one _ _)) (by omega)).mono ?_
  rintro e w1 ⟨ao1, cp1, rfl, -, r1, hb1⟩
  have k1 := kept_block (block_last w _) hb1
  have b1 : Below w.heap.size w w1 := (below_one w _).trans (hb1.mono (below_one w _).size)
  have m1 : w.heap.size + 1 ≤ w1.heap.size := by have := hb1.size; simpa using this
  clear hb1 HT
  have b2 := b1.trans ((below_one w1 (.cells #[.int .i64 6, .int .i64 0, .string ⟨#[]⟩, .slice none 0 0] 81)).mono b1.size)
  have kz := kept_block k1 (below_one w1 (.cells #[.int .i64 6, .int .i64 0, .string ⟨#[]⟩, .slice none 0 0] 81))
  go_wp2_with fail
  refine (specGet_row _ _ _ body O true (by rw [HO.out]; rfl) (by rw [HO.out]; rfl) _ (r1.below (below_one _ _)) (by omega)).mono ?_
  rintro e w2 ⟨ao2, cp2, rfl, ho2, r2, hb2⟩
  have kv := kept_block (block_last w1 _) hb2
  have kz := kept_block kz hb2
  have b3 := b2.trans (hb2.mono b2.size)
  have m2 : w1.heap.size + 1 ≤ w2.heap.size := by have := hb2.size; simpa using this
  obtain ⟨⟨x0, x1, x2, x3⟩, f0, f1, f2, f3⟩ := cells4 kv
  have kv := set_three (u := .slice ao2 O.length cp2) kv
  have kz := set_other (g := w1.heap.size) (j := 3) (u := .slice ao2 O.length cp2) kz (by omega)
  have b3 := below_set b3 (g := w1.heap.size) (by omega) 3 (.slice ao2 O.length cp2)
  have o3 := own_set (own_lt ho2 (base' := w1.heap.size + 1) (by simp)) (g := w1.heap.size) (j := 3) (u := .slice ao2 O.length cp2) (by omega)
  have hbo := r2.byte
  clear hb2 b2 k1 b1 r1 ho2 r2
  have KV := hide kv
  have KZ := hide kz
  have HO3 := hide o3
  clear kv kz o3
  go_wp2_with fail
  generalize w2.setCell ⟨w1.heap.size, 3, none⟩ (.slice ao2 O.length cp2) = W2 at *
  refine (specValOk_any 6 0 ⟨#[]⟩ ao2 O.length cp2 O _ (irow_own HO3.out hbo)).mono ?_
  rintro e w3 ⟨rfl, hb3⟩
  rw [HOK.out]
  clear x0 x1 x2 x3 f0 f1 f2 f3
  obtain ⟨⟨x0, x1, x2, x3⟩, -⟩ := cells4 (kept_block KV.out hb3)
  obtain ⟨⟨y0, y1, y2, y3⟩, f0, f1, f2, f3⟩ := cells4 (kept_block KZ.out hb3)
  have b4 := b3.trans (hb3.mono b3.size)
  have HO4 := hide (own_lt (own_below HO3.out hb3) (base' := w.heap.size + 1) (by omega))
  clear hb3 b3 KV KZ HO3
  go_wp2
  have o5 := own_set4 HO4.out (g := w.heap.size) (by omega) (.int .i64 6) (.int .i64 0) (.string ⟨#[]⟩) (.slice ao2 O.length cp2)
  exact bodyPost_ret (v := .tuple #[.agg #[.int .i64 6, .int .i64 0, .string ⟨#[]⟩, .slice ao2 O.length cp2], .int .i64 nx, .bool true]) (by simp [results, Tryz.results99, go_sem, *]) rfl ⟨ao2, cp2, rfl, own_lt o5 (by omega), irow_own o5 hbo, below_set4 b4 (Nat.le_refl _) _ _ _ _⟩

set_option maxRecDepth 100000 in
set_option maxHeartbeats 1000000 in
theorem specGetVal_nooid (a1 : Option Addr) (l1 c1 : Nat) (z1 : List Int) (t : Int) (nx : Int) (body : List Int) (hT : getTlv z1 t = (6, body, nx, true)) (w : World) (h1 : Row w a1 l1 c1 z1) (hs : l1 ≤ 1048576) (hO : getO body = none) :
    Calls Tryz.prog 99 #[.slice a1 l1 c1, .int .i64 t] w fun e w' => ∃ ao cap, e = .returned (.tuple #[.agg #[.int .i64 0, .int .i64 0, .string ⟨#[]⟩, .slice ao ([] : List Int).length cap], .int .i64 0, .bool false]) ∧
      w'.ownsRow w.heap.size 3 1 (.slice ao ([] : List Int).length cap) ([] : List Int).length (cI ([] : List Int)) ∧ IRow w' ao ([] : List Int).length cap ([] : List Int) ∧ Below w.heap.size w w' := by
  have hbl : body.length ≤ 1048576 := by have := getTlv_length z1 t; rw [hT] at this; have := h1.size; simp at *; omega
  have HO := hide hO
  clear hO
  have HT := hide hT
  clear hT
  go_enter Tryz.func99, Tryz.ntmps99
  go_wp2_with fail
  refine (specGet_made _ _ _ z1 t 6 nx true body HT.out _ (h1.below (below_one _ _)) (by omega)).mono ?_
  rintro e w1 ⟨ao1, cp1, rfl, -, r1, hb1⟩
  have k1 := kept_block (block_last w _) hb1
  have b1 : Below w.heap.size w w1 := (below_one w _).trans (hb1.mono (below_one w _).size)
  have m1 : w.heap.size + 1 ≤ w1.heap.size := by have := hb1.size; simpa using this
  clear hb1 HT
  have b2 := b1.trans ((below_one w1 (.cells #[.int .i64 6, .int .i64 0, .string ⟨#[]⟩, .slice none 0 0] 81)).mono b1.size)
  have kz := kept_block k1 (below_one w1 (.cells #[.int .i64 6, .int .i64 0, .string ⟨#[]⟩, .slice none 0 0] 81))
  go_wp2_with fail
  refine (specGet_row _ _ _ body ([] : List Int) false (by rw [HO.out]; rfl) (by rw [HO.out]; rfl) _ (r1.below (below_one _ _)) (by omega)).mono ?_
  rintro e w2 ⟨ao2, cp2, rfl, ho2, r2, hb2⟩
  have kv := kept_block (block_last w1 _) hb2
  have kz := kept_block kz hb2
  have b3 := b2.trans (hb2.mono b2.size)
  have m2 : w1.heap.size + 1 ≤ w2.heap.size := by have := hb2.size; simpa using this
  obtain ⟨⟨x0, x1, x2, x3⟩, f0, f1, f2, f3⟩ := cells4 kv
  have kv := set_three (u := .slice ao2 0 cp2) kv
  have kz := set_other (g := w1.heap.size) (j := 3) (u := .slice ao2 0 cp2) kz (by omega)
  have b3 := below_set b3 (g := w1.heap.size) (by omega) 3 (.slice ao2 0 cp2)
  clear hb2 b2 k1 b1 r1 ho2 r2
  obtain ⟨⟨y0, y1, y2, y3⟩, d0, d1, d2, d3⟩ := cells4 kz
  clear kz kv
  go_wp2
  exact bodyPost_ret (v := .tuple #[.agg #[.int .i64 0, .int .i64 0, .string ⟨#[]⟩, .slice none 0 0], .int .i64 0, .bool false]) (by simp [results, Tryz.results99, go_sem, *]) rfl ⟨none, 0, rfl, World.ownsRow_nil _ _ _ _, irow_nil _, below_set4 b3 (Nat.le_refl _) _ _ _ _⟩

set_option maxRecDepth 100000 in
set_option maxHeartbeats 1000000 in
theorem specGetVal_bare (a1 : Option Addr) (l1 c1 : Nat) (z1 : List Int) (t : Int) (k : Int) (nx : Int) (body : List Int) (hT : getTlv z1 t = (k, body, nx, true)) (w : World) (h1 : Row w a1 l1 c1 z1) (hs : l1 ≤ 1048576) (k2 : (k == 2) = false) (k4 : (k == 4) = false) (k6 : (k == 6) = false) (hK : (bareOf k).isSome = true) (hL : ((body.length : Int) == 0) = true) :
    Calls Tryz.prog 99 #[.slice a1 l1 c1, .int .i64 t] w fun e w' => ∃ ao cap, e = .returned (.tuple #[.agg #[.int .i64 k, .int .i64 0, .string ⟨#[]⟩, .slice ao ([] : List Int).length cap], .int .i64 nx, .bool true]) ∧
      w'.ownsRow w.heap.size 3 1 (.slice ao ([] : List Int).length cap) ([] : List Int).length (cI ([] : List Int)) ∧ IRow w' ao ([] : List Int).length cap ([] : List Int) ∧ Below w.heap.size w w' := by
  have hbl : body.length ≤ 1048576 := by have := getTlv_length z1 t; rw [hT] at this; have := h1.size; simp at *; omega
  have HOK := hide (show okV k 0 ⟨#[]⟩ [] = true by rw [bare_ok (by simpa using k2) (by simpa using k4) (by simpa using k6)]; exact hK)
  clear hK
  have HT := hide hT
  clear hT
  go_enter Tryz.func99, Tryz.ntmps99
  go_wp2_with fail
  refine (specGet_made _ _ _ z1 t k nx true body HT.out _ (h1.below (below_one _ _)) (by omega)).mono ?_
  rintro e w1 ⟨ao1, cp1, rfl, -, r1, hb1⟩
  have k1 := kept_block (block_last w _) hb1
  have b1 : Below w.heap.size w w1 := (below_one w _).trans (hb1.mono (below_one w _).size)
  have m1 : w.heap.size + 1 ≤ w1.heap.size := by have := hb1.size; simpa using this
  clear hb1 HT
  have kv := block_last w1 (.cells #[.int .i64 k, .int .i64 0, .string ⟨#[]⟩, .slice none 0 0] 81)
  have kz := kept_block k1 (below_one w1 (.cells #[.int .i64 k, .int .i64 0, .string ⟨#[]⟩, .slice none 0 0] 81))
  have b2 := b1.trans ((below_one w1 (.cells #[.int .i64 k, .int .i64 0, .string ⟨#[]⟩, .slice none 0 0] 81)).mono b1.size)
  have KV := hide kv
  have KZ := hide kz
  clear kv kz k1 b1 r1
  go_wp2_with fail
  generalize w1.alloc (.cells #[.int .i64 k, .int .i64 0, .string ⟨#[]⟩, .slice none 0 0] 81) = W2 at *
  refine (specValOk_any k 0 ⟨#[]⟩ none 0 0 [] _ (irow_nil _)).mono ?_
  rintro e w3 ⟨rfl, hb3⟩
  rw [HOK.out]
  obtain ⟨⟨x0, x1, x2, x3⟩, -⟩ := cells4 (kept_block KV.out hb3)
  obtain ⟨⟨y0, y1, y2, y3⟩, f0, f1, f2, f3⟩ := cells4 (kept_block KZ.out hb3)
  have b4 := b2.trans (hb3.mono b2.size)
  clear hb3 b2 KV KZ
  go_wp2
  exact bodyPost_ret (v := .tuple #[.agg #[.int .i64 k, .int .i64 0, .string ⟨#[]⟩, .slice none 0 0], .int .i64 nx, .bool true]) (by simp [results, Tryz.results99, go_sem, *]) rfl ⟨none, 0, rfl, World.ownsRow_nil _ _ _ _, irow_nil _, below_set4 b4 (Nat.le_refl _) _ _ _ _⟩

set_option maxRecDepth 100000 in
set_option maxHeartbeats 1000000 in
theorem specGetVal_nokind (a1 : Option Addr) (l1 c1 : Nat) (z1 : List Int) (t : Int) (k : Int) (nx : Int) (body : List Int) (hT : getTlv z1 t = (k, body, nx, true)) (w : World) (h1 : Row w a1 l1 c1 z1) (hs : l1 ≤ 1048576) (k2 : (k == 2) = false) (k4 : (k == 4) = false) (k6 : (k == 6) = false) (hK : (bareOf k).isSome = false) (hL : ((body.length : Int) == 0) = true) :
    Calls Tryz.prog 99 #[.slice a1 l1 c1, .int .i64 t] w fun e w' => ∃ ao cap, e = .returned (.tuple #[.agg #[.int .i64 0, .int .i64 0, .string ⟨#[]⟩, .slice ao ([] : List Int).length cap], .int .i64 0, .bool false]) ∧
      w'.ownsRow w.heap.size 3 1 (.slice ao ([] : List Int).length cap) ([] : List Int).length (cI ([] : List Int)) ∧ IRow w' ao ([] : List Int).length cap ([] : List Int) ∧ Below w.heap.size w w' := by
  have hbl : body.length ≤ 1048576 := by have := getTlv_length z1 t; rw [hT] at this; have := h1.size; simp at *; omega
  have HOK := hide (show okV k 0 ⟨#[]⟩ [] = false by rw [bare_ok (by simpa using k2) (by simpa using k4) (by simpa using k6)]; exact hK)
  clear hK
  have HT := hide hT
  clear hT
  go_enter Tryz.func99, Tryz.ntmps99
  go_wp2_with fail
  refine (specGet_made _ _ _ z1 t k nx true body HT.out _ (h1.below (below_one _ _)) (by omega)).mono ?_
  rintro e w1 ⟨ao1, cp1, rfl, -, r1, hb1⟩
  have k1 := kept_block (block_last w _) hb1
  have b1 : Below w.heap.size w w1 := (below_one w _).trans (hb1.mono (below_one w _).size)
  have m1 : w.heap.size + 1 ≤ w1.heap.size := by have := hb1.size; simpa using this
  clear hb1 HT
  have kv := block_last w1 (.cells #[.int .i64 k, .int .i64 0, .string ⟨#[]⟩, .slice none 0 0] 81)
  have kz := kept_block k1 (below_one w1 (.cells #[.int .i64 k, .int .i64 0, .string ⟨#[]⟩, .slice none 0 0] 81))
  have b2 := b1.trans ((below_one w1 (.cells #[.int .i64 k, .int .i64 0, .string ⟨#[]⟩, .slice none 0 0] 81)).mono b1.size)
  have KV := hide kv
  have KZ := hide kz
  clear kv kz k1 b1 r1
  go_wp2_with fail
  generalize w1.alloc (.cells #[.int .i64 k, .int .i64 0, .string ⟨#[]⟩, .slice none 0 0] 81) = W2 at *
  refine (specValOk_any k 0 ⟨#[]⟩ none 0 0 [] _ (irow_nil _)).mono ?_
  rintro e w3 ⟨rfl, hb3⟩
  rw [HOK.out]
  obtain ⟨⟨x0, x1, x2, x3⟩, -⟩ := cells4 (kept_block KV.out hb3)
  obtain ⟨⟨y0, y1, y2, y3⟩, f0, f1, f2, f3⟩ := cells4 (kept_block KZ.out hb3)
  have b4 := b2.trans (hb3.mono b2.size)
  clear hb3 b2 KV KZ
  go_wp2
  exact bodyPost_ret (v := .tuple #[.agg #[.int .i64 0, .int .i64 0, .string ⟨#[]⟩, .slice none 0 0], .int .i64 0, .bool false]) (by simp [results, Tryz.results99, go_sem, *]) rfl ⟨none, 0, rfl, World.ownsRow_nil _ _ _ _, irow_nil _, below_set4 b4 (Nat.le_refl _) _ _ _ _⟩

set_option maxRecDepth 100000 in
set_option maxHeartbeats 1000000 in
theorem specGetVal_nobody (a1 : Option Addr) (l1 c1 : Nat) (z1 : List Int) (t : Int) (k : Int) (nx : Int) (body : List Int) (hT : getTlv z1 t = (k, body, nx, true)) (w : World) (h1 : Row w a1 l1 c1 z1) (hs : l1 ≤ 1048576) (k2 : (k == 2) = false) (k4 : (k == 4) = false) (k6 : (k == 6) = false) (hL : ((body.length : Int) == 0) = false) :
    Calls Tryz.prog 99 #[.slice a1 l1 c1, .int .i64 t] w fun e w' => ∃ ao cap, e = .returned (.tuple #[.agg #[.int .i64 0, .int .i64 0, .string ⟨#[]⟩, .slice ao ([] : List Int).length cap], .int .i64 0, .bool false]) ∧
      w'.ownsRow w.heap.size 3 1 (.slice ao ([] : List Int).length cap) ([] : List Int).length (cI ([] : List Int)) ∧ IRow w' ao ([] : List Int).length cap ([] : List Int) ∧ Below w.heap.size w w' := by
  have hbl : body.length ≤ 1048576 := by have := getTlv_length z1 t; rw [hT] at this; have := h1.size; simp at *; omega
  have HT := hide hT
  clear hT
  go_enter Tryz.func99, Tryz.ntmps99
  go_wp2_with fail
  refine (specGet_made _ _ _ z1 t k nx true body HT.out _ (h1.below (below_one _ _)) (by omega)).mono ?_
  rintro e w1 ⟨ao1, cp1, rfl, -, r1, hb1⟩
  have k1 := kept_block (block_last w _) hb1
  have b1 : Below w.heap.size w w1 := (below_one w _).trans (hb1.mono (below_one w _).size)
  have m1 : w.heap.size + 1 ≤ w1.heap.size := by have := hb1.size; simpa using this
  clear hb1 HT
  clear r1
  obtain ⟨⟨x0, x1, x2, x3⟩, f0, f1, f2, f3⟩ := cells4 (kept_block k1 (below_one w1 (.cells #[.int .i64 k, .int .i64 0, .string ⟨#[]⟩, .slice none 0 0] 81)))
  have b2 := b1.trans ((below_one w1 (.cells #[.int .i64 k, .int .i64 0, .string ⟨#[]⟩, .slice none 0 0] 81)).mono b1.size)
  clear k1 b1
  go_wp2
  exact bodyPost_ret (v := .tuple #[.agg #[.int .i64 0, .int .i64 0, .string ⟨#[]⟩, .slice none 0 0], .int .i64 0, .bool false]) (by simp [results, Tryz.results99, go_sem, *]) rfl ⟨none, 0, rfl, World.ownsRow_nil _ _ _ _, irow_nil _, below_set4 b2 (Nat.le_refl _) _ _ _ _⟩

theorem specGetVal_made (a1 : Option Addr) (l1 c1 : Nat) (z1 : List Int) (t K N : Int) (S : ByteArray) (O : List Int) (next : Int) (ok : Bool) (hG : getV z1 t = (K, N, S, O, next, ok)) (w : World) (h1 : Row w a1 l1 c1 z1) (hs : l1 ≤ 1048576) :
    Calls Tryz.prog 99 #[.slice a1 l1 c1, .int .i64 t] w fun e w' => ∃ ao cap, e = .returned (.tuple #[.agg #[.int .i64 K, .int .i64 N, .string S, .slice ao O.length cap], .int .i64 next, .bool ok]) ∧
      w'.ownsRow w.heap.size 3 1 (.slice ao O.length cap) O.length (cI O) ∧ IRow w' ao O.length cap O ∧ Below w.heap.size w w' := by
  rcases hT : getTlv z1 t with ⟨k, body, nx, okT⟩
  rcases getV_ways hG hT with ⟨rfl, e⟩ | ⟨rfl, rfl, hi, e⟩ | ⟨rfl, rfl, hi, e⟩ | ⟨rfl, rfl, hl, e⟩ | ⟨rfl, rfl, hl, e⟩ | ⟨rfl, rfl, o, ho, e⟩ | ⟨rfl, rfl, ho, e⟩ | ⟨rfl, ⟨k2, k4, k6⟩, hk, hl, e⟩ | ⟨rfl, ⟨k2, k4, k6⟩, hk, e⟩
  all_goals (cases e)
  · obtain ⟨rfl, rfl, rfl⟩ := getTlv_none hT
    exact specGetVal_notlv a1 l1 c1 z1 t _ _ hT w h1 hs
  · exact specGetVal_int a1 l1 c1 z1 t _ _ body hT w h1 hs (Prod.ext rfl hi)
  · exact specGetVal_noint a1 l1 c1 z1 t _ _ body hT w h1 hs (Prod.ext rfl hi)
  · exact specGetVal_text a1 l1 c1 z1 t _ body hT w h1 hs hl
  · exact specGetVal_notext a1 l1 c1 z1 t _ body hT w h1 hs hl
  · exact specGetVal_oid a1 l1 c1 z1 t _ _ body hT w h1 hs ho
  · exact specGetVal_nooid a1 l1 c1 z1 t _ body hT w h1 hs ho
  · exact specGetVal_bare a1 l1 c1 z1 t _ _ body hT w h1 hs (by simpa using k2) (by simpa using k4) (by simpa using k6) (by obtain ⟨x, hx, _⟩ := bare_some hk; rw [hx]; rfl) (by rw [hl]; rfl)
  · have k2' : (k == 2) = false := by simpa using k2
    have k4' : (k == 4) = false := by simpa using k4
    have k6' : (k == 6) = false := by simpa using k6
    cases hL : ((body.length : Int) == 0)
    · exact specGetVal_nobody a1 l1 c1 z1 t k nx body hT w h1 hs k2' k4' k6' hL
    · exact specGetVal_nokind a1 l1 c1 z1 t k nx body hT w h1 hs k2' k4' k6' (by rw [hL, Bool.and_true] at hk; exact hk) hL

theorem byB_strB (S : ByteArray) : byB (strB S) = S := by
  have h : (strB S).map (fun z => UInt8.ofNat z.toNat) = S.data.toList := by
    unfold strB
    rw [List.map_map]
    conv => rhs; rw [← List.map_id S.data.toList]
    exact List.map_congr_left (fun b _ => by
      show UInt8.ofNat ((b.toNat : Int)).toNat = b
      rw [Int.toNat_natCast]
      exact UInt8.ofNat_toNat)
  unfold byB
  rw [h]

theorem empty_text {S : ByteArray} (h : S.toList.isEmpty = true) : S = ⟨#[]⟩ := by
  rw [ByteArray.toList_eq] at h
  obtain ⟨⟨l⟩⟩ := S
  cases l with
  | nil => rfl
  | cons x r => simp at h

/-- The kinds of what is right. -/
theorem okV_ways {K N : Int} {S : ByteArray} {z : List Int} (h : okV K N S z = true) :
    ((K = 5 ∨ K = 128 ∨ K = 130) ∧ N = 0 ∧ S = ⟨#[]⟩ ∧ z = []) ∨ (K = 2 ∧ clip N = N ∧ S = ⟨#[]⟩ ∧ z = []) ∨ (K = 4 ∧ S.size ≤ 20 ∧ N = 0 ∧ z = []) ∨ (K = 6 ∧ oidOk z = true ∧ N = 0 ∧ S = ⟨#[]⟩) := by
  unfold okV at h
  split at h
  · simp only [Bool.and_eq_true, decide_eq_true_eq, beq_iff_eq] at h
    exact .inl ⟨‹_›, h.1, empty_text h.2.1, h.2.2⟩
  · split at h
    · simp only [Bool.and_eq_true, decide_eq_true_eq, beq_iff_eq] at h
      exact .inr (.inl ⟨‹_›, h.1, empty_text h.2.1, h.2.2⟩)
    · split at h
      · simp only [Bool.and_eq_true, decide_eq_true_eq, beq_iff_eq] at h
        exact .inr (.inr (.inl ⟨‹_›, by omega, h.2.1, h.2.2⟩))
      · split at h
        · simp only [Bool.and_eq_true, beq_iff_eq] at h
          exact .inr (.inr (.inr ⟨‹_›, h.1, h.2.1, empty_text h.2.2⟩))
        · cases h

theorem getV_of {zs : List Int} {t k nx : Int} {body : List Int} {K N : Int} {S : ByteArray} {z : List Int} (hT : getTlv zs t = (k, body, nx, true)) (hB : getBody k body = some (K, N, S, z)) : getV zs t = (K, N, S, z, nx, true) := by
  unfold getV
  rw [hT]
  simp [hB]

/-- What is put comes back. -/
theorem val_back (b : List Int) {K N : Int} {S : ByteArray} {z : List Int} (h : okV K N S z = true) : getV (putV b K N S z) b.length = (K, N, S, z, ((putV b K N S z).length : Int), true) := by
  have hP : putV b K N S z = putTlv b K (bodyV K N S z) := by simp [putV, h]
  have hs := body_small h
  rw [hP]
  rcases okV_ways h with ⟨hk, rfl, rfl, rfl⟩ | ⟨rfl, hc, rfl, rfl⟩ | ⟨rfl, hl, rfl, rfl⟩ | ⟨rfl, ho, rfl, rfl⟩
  · have hb : bodyV K 0 ⟨#[]⟩ [] = [] := by unfold bodyV; rw [if_neg (by omega), if_neg (by omega), if_neg (by omega)]
    rw [hb]
    refine getV_of (tlv_back b K [] (by simp; omega)) ?_
    unfold getBody
    rw [if_neg (by omega), if_neg (by omega), if_neg (by omega), if_pos ⟨hk, rfl⟩]
  · refine getV_of (tlv_back b 2 _ (by omega)) ?_
    have hb : bodyV 2 N ⟨#[]⟩ [] = putInt N := by simp [bodyV]
    rw [hb]
    simp [getBody, int_back, hc]
  · refine getV_of (tlv_back b 4 _ (by omega)) ?_
    have hb : bodyV 4 0 S [] = strB S := by simp [bodyV]
    rw [hb]
    simp [getBody, strB_length, hl, byB_strB]
  · refine getV_of (tlv_back b 6 _ (by omega)) ?_
    have hb : bodyV 6 0 ⟨#[]⟩ z = putO z := by simp [bodyV]
    rw [hb]
    simp [getBody, getO_put ho]

/-- What is read is right, and has these bytes. -/
theorem val_read {c : List Int} (hc : Byt c) {t K N : Int} {S : ByteArray} {O : List Int} {next : Int} (h : getV c t = (K, N, S, O, next, true)) :
    okV K N S O = true ∧ ∃ p q : Nat, t = p ∧ next = q ∧ p ≤ q ∧ q ≤ c.length ∧ p < c.length ∧ putV [] K N S O = (c.drop p).take (q - p) := by
  rcases hT : getTlv c t with ⟨k, body, nx, okT⟩
  have hby : Byt body := by have := getTlv_byte c t hc; rw [hT] at this; exact this
  have main : okT = true → okV K N S O = true → K = k → next = nx → bodyV K N S O = body → okV K N S O = true ∧ ∃ p q : Nat, t = p ∧ next = q ∧ p ≤ q ∧ q ≤ c.length ∧ p < c.length ∧ putV [] K N S O = (c.drop p).take (q - p) := by
    rintro rfl hok rfl rfl hbd
    obtain ⟨p, q, rfl, rfl, h1, h2, h3⟩ := tlv_read c hc t K next body hT
    refine ⟨hok, p, q, rfl, rfl, h1, h2, ?_, ?_⟩
    · by_cases hp : p < c.length
      · exact hp
      · unfold getTlv at hT; rw [if_pos (.inr (by omega))] at hT; simp at hT
    · rw [← h3, ← hbd]; simp [putV, hok]
  rcases getV_ways h hT with ⟨ht, e⟩ | ⟨ht, hk, hi, e⟩ | ⟨ht, hk, hi, e⟩ | ⟨ht, hk, hl, e⟩ | ⟨ht, hk, hl, e⟩ | ⟨ht, hk, o, ho, e⟩ | ⟨ht, hk, ho, e⟩ | ⟨ht, hk, hk', hl, e⟩ | ⟨ht, hk, hk', e⟩
  · cases e
  · cases e
    have hi' : getInt body = ((getInt body).1, true) := Prod.ext rfl hi
    exact main ht (int_ok hby hi') hk.symm rfl (by simp [bodyV]; exact int_read body hby _ hi')
  · cases e
  · cases e
    exact main ht (by rw [text_ok]; exact decide_eq_true hl) hk.symm rfl (by simp [bodyV]; exact strB_byB hby)
  · cases e
  · cases e
    exact main ht (oid_ok (getO_is ho).1) hk.symm rfl (by simp [bodyV]; exact (getO_is ho).2)
  · cases e
  · cases e
    refine main ht (by rw [bare_ok hk.1 hk.2.1 hk.2.2]; obtain ⟨x, hx, _⟩ := bare_some hk'; rw [hx]; rfl) rfl rfl ?_
    unfold bodyV
    rw [if_neg hk.1, if_neg hk.2.1, if_neg hk.2.2, List.eq_nil_of_length_eq_zero hl]
  · cases e

end Go.Proofs.YtjkmagpppfnlpaaGreatDoor
