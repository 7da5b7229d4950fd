/-
  A value within (the program's worth) by contracts: what it is of a value, whether it is right, the value that it is.
-/
import Derived.Test.YtamglfhnhjgdjaaGreatDoorValHelp
import Derived.Test.YtamglfhnhjgdjaaGreatDoorQB
namespace Go.Proofs.YtamglfhnhjgdjaaGreatDoor
open Go.RowKit

/-- A value within: a case a kind. -/
structure Wor where
  c : Option (Option (Option (Int ⊕ (ByteArray ⊕ (Option Addr × Nat × Nat × List Int)))))

abbrev Wor.int (n : Int) : Wor := ⟨some (some (some (.inl n)))⟩
abbrev Wor.text (s : ByteArray) : Wor := ⟨some (some (some (.inr (.inl s))))⟩
abbrev Wor.oid (a : Option Addr) (l c : Nat) (z : List Int) : Wor := ⟨some (some (some (.inr (.inr (a, l, c, z)))))⟩
abbrev Wor.null : Wor := ⟨Option.none⟩
abbrev Wor.none : Wor := ⟨some Option.none⟩
abbrev Wor.last : Wor := ⟨some (some Option.none)⟩

theorem Wor.byCase {motive : Wor → Prop} (int : ∀ n, motive (Wor.int n)) (text : ∀ s, motive (Wor.text s)) (oid : ∀ a l c z, motive (Wor.oid a l c z)) (null : motive Wor.null) (none : motive Wor.none) (last : motive Wor.last) (x : Wor) : motive x := by
  rcases x with ⟨_ | _ | _ | n | s | ⟨a, l, c, z⟩⟩
  · exact null
  · exact none
  · exact last
  · exact int n
  · exact text s
  · exact oid a l c z

def Wor.v (x : Wor) : Value :=
  match x.c with
  | some (some (some (.inl n))) => .iface 160 (.int .i64 n)
  | some (some (some (.inr (.inl s)))) => .iface 161 (.string s)
  | some (some (some (.inr (.inr (a, l, c, _))))) => .iface 162 (.slice a l c)
  | Option.none => .iface 169 (.agg #[])
  | some Option.none => .iface 170 (.agg #[])
  | some (some Option.none) => .iface 171 (.agg #[])
def Wor.kind (x : Wor) : Int :=
  match x.c with
  | some (some (some (.inl _))) => 2
  | some (some (some (.inr (.inl _)))) => 4
  | some (some (some (.inr (.inr _)))) => 6
  | Option.none => 5
  | some Option.none => 128
  | some (some Option.none) => 130
def Wor.num (x : Wor) : Int :=
  match x.c with
  | some (some (some (.inl n))) => n
  | _ => 0
def Wor.str (x : Wor) : ByteArray :=
  match x.c with
  | some (some (some (.inr (.inl s)))) => s
  | _ => ⟨#[]⟩
def Wor.sl (x : Wor) : Value :=
  match x.c with
  | some (some (some (.inr (.inr (a, l, c, _))))) => .slice a l c
  | _ => .slice Option.none 0 0
def Wor.z (x : Wor) : List Int :=
  match x.c with
  | some (some (some (.inr (.inr (_, _, _, z))))) => z
  | _ => []
def Wor.ok (x : Wor) : Bool :=
  match x.c with
  | some (some (some (.inl n))) => decide (-2147483648 ≤ n) && decide (n ≤ 2147483647)
  | some (some (some (.inr (.inl s)))) => decide ((s.size : Int) ≤ 20)
  | some (some (some (.inr (.inr (_, _, _, z))))) => oidOk z
  | _ => true
def Wor.In (w : World) (x : Wor) : Prop :=
  match x.c with
  | some (some (some (.inr (.inr (a, l, c, z))))) => IRow w a l c z
  | _ => True

/-- What a value's kind names; none where there is no such kind. -/
def worOf (K N : Int) (S : ByteArray) (a : Option Addr) (l c : Nat) (z : List Int) : Option Wor :=
  if K = 2 then some (.int N) else if K = 4 then some (.text S) else if K = 6 then some (.oid a l c z)
  else if K = 5 then some .null else if K = 128 then some .none else if K = 130 then some .last else Option.none

def worV : Option Wor → Value
  | some x => x.v
  | Option.none => .nilIface

theorem ret_val {a b : Value} (h : a = b) : Ending.returned a = .returned b := by rw [h]

theorem as_int_int (v : Value) (w : World) : (Instr.typeAssert (.iface 160 v) 148 160 true).run Tryz.prog w = .ok (.tuple #[v, .bool true]) w := by kernel_rfl
theorem as_int_text (v : Value) (w : World) : (Instr.typeAssert (.iface 160 v) 148 161 true).run Tryz.prog w = .ok (.tuple #[.string ⟨#[]⟩, .bool false]) w := by kernel_rfl
theorem as_int_oid (v : Value) (w : World) : (Instr.typeAssert (.iface 160 v) 148 162 true).run Tryz.prog w = .ok (.tuple #[.slice Option.none 0 0, .bool false]) w := by kernel_rfl
theorem kind_int (v : Value) (w : World) : (method 310 160 v "loop.example/g00326/impl.kind").run Tryz.prog w = .ok (152, v) w := by kernel_rfl
theorem as_text_int (v : Value) (w : World) : (Instr.typeAssert (.iface 161 v) 148 160 true).run Tryz.prog w = .ok (.tuple #[.int .i64 0, .bool false]) w := by kernel_rfl
theorem as_text_text (v : Value) (w : World) : (Instr.typeAssert (.iface 161 v) 148 161 true).run Tryz.prog w = .ok (.tuple #[v, .bool true]) w := by kernel_rfl
theorem as_text_oid (v : Value) (w : World) : (Instr.typeAssert (.iface 161 v) 148 162 true).run Tryz.prog w = .ok (.tuple #[.slice Option.none 0 0, .bool false]) w := by kernel_rfl
theorem kind_text (v : Value) (w : World) : (method 310 161 v "loop.example/g00326/impl.kind").run Tryz.prog w = .ok (153, v) w := by kernel_rfl
theorem as_oid_int (v : Value) (w : World) : (Instr.typeAssert (.iface 162 v) 148 160 true).run Tryz.prog w = .ok (.tuple #[.int .i64 0, .bool false]) w := by kernel_rfl
theorem as_oid_text (v : Value) (w : World) : (Instr.typeAssert (.iface 162 v) 148 161 true).run Tryz.prog w = .ok (.tuple #[.string ⟨#[]⟩, .bool false]) w := by kernel_rfl
theorem as_oid_oid (v : Value) (w : World) : (Instr.typeAssert (.iface 162 v) 148 162 true).run Tryz.prog w = .ok (.tuple #[v, .bool true]) w := by kernel_rfl
theorem kind_oid (v : Value) (w : World) : (method 310 162 v "loop.example/g00326/impl.kind").run Tryz.prog w = .ok (154, v) w := by kernel_rfl
theorem as_null_int (v : Value) (w : World) : (Instr.typeAssert (.iface 169 v) 148 160 true).run Tryz.prog w = .ok (.tuple #[.int .i64 0, .bool false]) w := by kernel_rfl
theorem as_null_text (v : Value) (w : World) : (Instr.typeAssert (.iface 169 v) 148 161 true).run Tryz.prog w = .ok (.tuple #[.string ⟨#[]⟩, .bool false]) w := by kernel_rfl
theorem as_null_oid (v : Value) (w : World) : (Instr.typeAssert (.iface 169 v) 148 162 true).run Tryz.prog w = .ok (.tuple #[.slice Option.none 0 0, .bool false]) w := by kernel_rfl
theorem kind_null (v : Value) (w : World) : (method 310 169 v "loop.example/g00326/impl.kind").run Tryz.prog w = .ok (155, v) w := by kernel_rfl
theorem as_none_int (v : Value) (w : World) : (Instr.typeAssert (.iface 170 v) 148 160 true).run Tryz.prog w = .ok (.tuple #[.int .i64 0, .bool false]) w := by kernel_rfl
theorem as_none_text (v : Value) (w : World) : (Instr.typeAssert (.iface 170 v) 148 161 true).run Tryz.prog w = .ok (.tuple #[.string ⟨#[]⟩, .bool false]) w := by kernel_rfl
theorem as_none_oid (v : Value) (w : World) : (Instr.typeAssert (.iface 170 v) 148 162 true).run Tryz.prog w = .ok (.tuple #[.slice Option.none 0 0, .bool false]) w := by kernel_rfl
theorem kind_none (v : Value) (w : World) : (method 310 170 v "loop.example/g00326/impl.kind").run Tryz.prog w = .ok (156, v) w := by kernel_rfl
theorem as_end_int (v : Value) (w : World) : (Instr.typeAssert (.iface 171 v) 148 160 true).run Tryz.prog w = .ok (.tuple #[.int .i64 0, .bool false]) w := by kernel_rfl
theorem as_end_text (v : Value) (w : World) : (Instr.typeAssert (.iface 171 v) 148 161 true).run Tryz.prog w = .ok (.tuple #[.string ⟨#[]⟩, .bool false]) w := by kernel_rfl
theorem as_end_oid (v : Value) (w : World) : (Instr.typeAssert (.iface 171 v) 148 162 true).run Tryz.prog w = .ok (.tuple #[.slice Option.none 0 0, .bool false]) w := by kernel_rfl
theorem kind_end (v : Value) (w : World) : (method 310 171 v "loop.example/g00326/impl.kind").run Tryz.prog w = .ok (157, v) w := by kernel_rfl

theorem of_two {K N : Int} {S : ByteArray} {a : Option Addr} {l c : Nat} {z : List Int} (h : (K == 2) = true) : worOf K N S a l c z = some (.int N) := by simp at h; simp [worOf, h]
theorem of_four {K N : Int} {S : ByteArray} {a : Option Addr} {l c : Nat} {z : List Int} (h : (K == 4) = true) : worOf K N S a l c z = some (.text S) := by simp at h; simp [worOf, h]
theorem of_six {K N : Int} {S : ByteArray} {a : Option Addr} {l c : Nat} {z : List Int} (h : (K == 6) = true) : worOf K N S a l c z = some (.oid a l c z) := by simp at h; simp [worOf, h]

/-- The kinds that name nothing. -/
def bareOf (K : Int) : Option Wor := if K = 5 then some .null else if K = 128 then some .none else if K = 130 then some .last else Option.none

theorem of_bare {K N : Int} {S : ByteArray} {a : Option Addr} {l c : Nat} {z : List Int} (h2 : (K == 2) = false) (h4 : (K == 4) = false) (h6 : (K == 6) = false) : worOf K N S a l c z = bareOf K := by
  simp at h2 h4 h6; simp [worOf, bareOf, h2, h4, h6]

theorem bare_five {K : Int} (h : (K == 5) = true) : worV (bareOf K) = .iface 169 (.agg #[]) := by simp at h; simp [bareOf, h, worV, Wor.v]
theorem bare_none {K : Int} (h : (K == 128) = true) : worV (bareOf K) = .iface 170 (.agg #[]) := by simp at h; simp [bareOf, h, worV, Wor.v]
theorem bare_last {K : Int} (h : (K == 130) = true) : worV (bareOf K) = .iface 171 (.agg #[]) := by simp at h; simp [bareOf, h, worV, Wor.v]
theorem bare_no {K : Int} (h1 : (K == 5) = false) (h2 : (K == 128) = false) (h3 : (K == 130) = false) : worV (bareOf K) = .nilIface := by simp at h1 h2 h3; simp [bareOf, h1, h2, h3, worV]

set_option maxRecDepth 100000 in
set_option maxHeartbeats 400000 in
theorem bare_any (K : Int) (w : World) :
    Calls Tryz.prog 108 #[.int .i64 K] w fun e w' => e = .returned (worV (bareOf K)) ∧ w' = w := by
  generalize hP : worV (bareOf K) = P
  have HP := hide hP
  clear hP
  go_enter Tryz.func108, Tryz.ntmps108
  go_wp2
  · go_ret
    exact ⟨ret_val ((bare_five ‹_›).symm.trans HP.out), rfl⟩
  · go_ret
    exact ⟨ret_val ((bare_none ‹_›).symm.trans HP.out), rfl⟩
  · go_ret
    exact ⟨ret_val ((bare_last ‹_›).symm.trans HP.out), rfl⟩
  · go_ret
    exact ⟨ret_val ((bare_no ‹_› ‹_› ‹_›).symm.trans HP.out), rfl⟩

set_option maxRecDepth 100000 in
set_option maxHeartbeats 400000 in
theorem worthOf_any (K N : Int) (S : ByteArray) (a1 : Option Addr) (l1 c1 : Nat) (z1 : List Int) (w : World) :
    Calls Tryz.prog 91 #[.agg #[.int .i64 K, .int .i64 N, .string S, .slice a1 l1 c1]] w fun e w' => e = .returned (worV (worOf K N S a1 l1 c1 z1)) ∧ Below w.heap.size w w' := by
  generalize hP : worV (worOf K N S a1 l1 c1 z1) = P
  have HP := hide hP
  clear hP
  go_enter Tryz.func91, Tryz.ntmps91
  go_wp2_with fail
  · go_ret
    exact ⟨ret_val (by rw [← HP.out, of_two ‹_›]; rfl), below_one _ _⟩
  · go_ret
    exact ⟨ret_val (by rw [← HP.out, of_four ‹_›]; rfl), below_one _ _⟩
  · go_ret
    exact ⟨ret_val (by rw [← HP.out, of_six ‹_›]; rfl), below_one _ _⟩
  · have t2 := hide ‹(K == 2) = false›
    have t4 := hide ‹(K == 4) = false›
    have t6 := hide ‹(K == 6) = false›
    refine (bare_any K _).mono ?_
    rintro e w1 ⟨rfl, rfl⟩
    go_wp2
    go_ret
    exact ⟨ret_val (by rw [← HP.out, of_bare t2.out t4.out t6.out]; rfl), below_one _ _⟩

set_option maxRecDepth 100000 in
set_option maxHeartbeats 400000 in
theorem worthOk_nil (w : World) : Calls Tryz.prog 106 #[.nilIface] w fun e w' => e = .returned (.bool false) ∧ w' = w := by
  go_enter Tryz.func106, Tryz.ntmps106
  go_wp2
  go_ret
  exact ⟨rfl, rfl⟩

set_option maxRecDepth 100000 in
set_option maxHeartbeats 400000 in
theorem worthOk_any (x : Wor) (w : World) (h : x.In w) :
    Calls Tryz.prog 106 #[x.v] w fun e w' => e = .returned (.bool x.ok) ∧ w' = w := by
  cases x using Wor.byCase with
  | int n =>
    show Calls Tryz.prog 106 #[.iface 160 (.int .i64 n)] w _
    have s1 := as_int_int
    go_enter Tryz.func106, Tryz.ntmps106
    by_cases g : -2147483648 ≤ n
    · go_wp2
      go_ret
      exact ⟨ret_bool (by simp [Wor.ok, g]), rfl⟩
    · go_wp2
      go_ret
      exact ⟨ret_bool (by simp [Wor.ok]; omega), rfl⟩
  | text s =>
    show Calls Tryz.prog 106 #[.iface 161 (.string s)] w _
    have s1 := as_text_int
    have s2 := as_text_text
    go_enter Tryz.func106, Tryz.ntmps106
    go_wp2
    go_ret
    exact ⟨rfl, rfl⟩
  | oid a l c z =>
    show Calls Tryz.prog 106 #[.iface 162 (.slice a l c)] w _
    have s1 := as_oid_int
    have s2 := as_oid_text
    have s3 := as_oid_oid
    have h' : IRow w a l c z := h
    go_enter Tryz.func106, Tryz.ntmps106
    go_wp2_with fail
    refine (implOk_any a l c z _ h').mono ?_
    rintro e w1 ⟨rfl, rfl⟩
    go_wp2
    go_ret
    exact ⟨rfl, rfl⟩
  | null =>
    show Calls Tryz.prog 106 #[.iface 169 (.agg #[])] w _
    have s1 := as_null_int
    have s2 := as_null_text
    have s3 := as_null_oid
    go_enter Tryz.func106, Tryz.ntmps106
    go_wp2
    go_ret
    exact ⟨rfl, rfl⟩
  | none =>
    show Calls Tryz.prog 106 #[.iface 170 (.agg #[])] w _
    have s1 := as_none_int
    have s2 := as_none_text
    have s3 := as_none_oid
    go_enter Tryz.func106, Tryz.ntmps106
    go_wp2
    go_ret
    exact ⟨rfl, rfl⟩
  | last =>
    show Calls Tryz.prog 106 #[.iface 171 (.agg #[])] w _
    have s1 := as_end_int
    have s2 := as_end_text
    have s3 := as_end_oid
    go_enter Tryz.func106, Tryz.ntmps106
    go_wp2
    go_ret
    exact ⟨rfl, rfl⟩

set_option maxRecDepth 100000 in
set_option maxHeartbeats 400000 in
theorem valOf_any (x : Wor) (w : World) :
    Calls Tryz.prog 107 #[x.v] w fun e w' => e = .returned (.agg #[.int .i64 x.kind, .int .i64 x.num, .string x.str, x.sl]) ∧ Below w.heap.size w w' := by
  cases x using Wor.byCase with
  | int n =>
    show Calls Tryz.prog 107 #[.iface 160 (.int .i64 n)] w _
    have s0 := kind_int
    have s1 := as_int_int
    go_enter Tryz.func107, Tryz.ntmps107
    go_wp2
    exact bodyPost_ret (v := .agg #[.int .i64 2, .int .i64 n, .string ⟨#[]⟩, .slice Option.none 0 0]) (by simp [results, Tryz.results107, go_sem]) rfl ⟨rfl, below_two _ _ _⟩
  | text s =>
    show Calls Tryz.prog 107 #[.iface 161 (.string s)] w _
    have s0 := kind_text
    have s1 := as_text_int
    have s2 := as_text_text
    go_enter Tryz.func107, Tryz.ntmps107
    go_wp2
    exact bodyPost_ret (v := .agg #[.int .i64 4, .int .i64 0, .string s, .slice Option.none 0 0]) (by simp [results, Tryz.results107, go_sem]) rfl ⟨rfl, below_two _ _ _⟩
  | oid a l c z =>
    show Calls Tryz.prog 107 #[.iface 162 (.slice a l c)] w _
    have s0 := kind_oid
    have s1 := as_oid_int
    have s2 := as_oid_text
    have s3 := as_oid_oid
    go_enter Tryz.func107, Tryz.ntmps107
    go_wp2
    exact bodyPost_ret (v := .agg #[.int .i64 6, .int .i64 0, .string ⟨#[]⟩, .slice a l c]) (by simp [results, Tryz.results107, go_sem]) rfl ⟨rfl, below_two _ _ _⟩
  | null =>
    show Calls Tryz.prog 107 #[.iface 169 (.agg #[])] w _
    have s0 := kind_null
    have s1 := as_null_int
    have s2 := as_null_text
    have s3 := as_null_oid
    go_enter Tryz.func107, Tryz.ntmps107
    go_wp2
    exact bodyPost_ret (v := .agg #[.int .i64 5, .int .i64 0, .string ⟨#[]⟩, .slice Option.none 0 0]) (by simp [results, Tryz.results107, go_sem]) rfl ⟨rfl, below_three _ _ _ _⟩
  | none =>
    show Calls Tryz.prog 107 #[.iface 170 (.agg #[])] w _
    have s0 := kind_none
    have s1 := as_none_int
    have s2 := as_none_text
    have s3 := as_none_oid
    go_enter Tryz.func107, Tryz.ntmps107
    go_wp2
    exact bodyPost_ret (v := .agg #[.int .i64 128, .int .i64 0, .string ⟨#[]⟩, .slice Option.none 0 0]) (by simp [results, Tryz.results107, go_sem]) rfl ⟨rfl, below_three _ _ _ _⟩
  | last =>
    show Calls Tryz.prog 107 #[.iface 171 (.agg #[])] w _
    have s0 := kind_end
    have s1 := as_end_int
    have s2 := as_end_text
    have s3 := as_end_oid
    go_enter Tryz.func107, Tryz.ntmps107
    go_wp2
    exact bodyPost_ret (v := .agg #[.int .i64 130, .int .i64 0, .string ⟨#[]⟩, .slice Option.none 0 0]) (by simp [results, Tryz.results107, go_sem]) rfl ⟨rfl, below_three _ _ _ _⟩

end Go.Proofs.YtamglfhnhjgdjaaGreatDoor
