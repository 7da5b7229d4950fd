/-
  No cell of these rows narrows 'for every input' (looked for: loops, veiled, ifaces, maps, wideKeys, modest, calm, conditions, laid).
  DERIVED. THE GIVEN ROWS OF THIS SEAT. 3 by the template 'for every input the law returns true; each argument reads behind the call as it read before'; 0 by the template 'total and deterministic' (their statements: YtanonfdgckanhabTotals.lean).
  GIVEN WITH THE SEED: the statements are not yours to turn. If you find one false, say at which input.
  Laid BY PROGRAM, IN A SANDBOX (cutbox-rows.mjs): the forced cells as the released guide's own fill.sh prints them over the translation 6b5530bef9e476f6… (all of the seat's roots in one cut). By AI agents, Wed Nov 11 2026. No macro, syntax, notation, axiom, sorry.
-/
import Derived.Test.YtanonfdgckanhabChecked
import GoSem.Claim
import GoSem.ClaimJoined
import GoSem.ClaimMapViews
import Derived.JoinedTies
import Derived.KernelRfl
namespace Go.Proofs.Ytanonfdgckanhab
/- THE CELL 'sum', in the pinned program and in every row, IS THE sha256 OF THE DUMP (.gsa) THAT YtanonfdgckanhabProg.lean LOADS. Nothing in Lean hashes anything: it is a label: what it is worth is what the hold of that sum in a sandbox is worth. -/
noncomputable def Try.pinned : Pinned := { name := "ytanonfdgckanhab", sum := "6b5530bef9e476f6b671e15dfb9406935e2cf5b5d924d1e784e8447e7380d0ed", checked := Try.checked }
namespace Rows
def none {H : Type} : Left H := { results := [], args := [] }

/-- 'laws.FnExactStepVec': WHATEVER THE INPUT: true; the input reads as it did. -/
def fnExactStepVecSpec : ChangeSpec := { name := "fnExactStepVec", fn := fun _ => fun
  | [d1, d2] => { results := [.lit (.bool true)], args := [d1, d2] }
  | _ => none }
def fnExactStepVecRow : OpenClaim := { program := "ytanonfdgckanhab", sum := "6b5530bef9e476f6b671e15dfb9406935e2cf5b5d924d1e784e8447e7380d0ed", func := "loop.example/g00326/laws.FnExactStepVec", spec := "fnExactStepVec", apart := false }
def FnExactStepVecSaid : Prop := fnExactStepVecRow.holds Try.pinned (OpenSpec.ofChange fnExactStepVecSpec)

/-- ITS FALSE NEIGHBOUR: 'it returns false'. Refute it at one input. -/
def fnExactStepVecWrong : ChangeSpec := { name := "fnExactStepVec", fn := fun _ => fun
  | [d1, d2] => { results := [.lit (.bool false)], args := [d1, d2] }
  | _ => none }
def FnExactStepVecWrongFalsely : Prop := fnExactStepVecRow.holds Try.pinned (OpenSpec.ofChange fnExactStepVecWrong)

/-- 'laws.FnExactPutVec': WHATEVER THE INPUT: true; the input reads as it did. -/
def fnExactPutVecSpec : ChangeSpec := { name := "fnExactPutVec", fn := fun _ => fun
  | [d] => { results := [.lit (.bool true)], args := [d] }
  | _ => none }
def fnExactPutVecRow : OpenClaim := { program := "ytanonfdgckanhab", sum := "6b5530bef9e476f6b671e15dfb9406935e2cf5b5d924d1e784e8447e7380d0ed", func := "loop.example/g00326/laws.FnExactPutVec", spec := "fnExactPutVec", apart := false }
def FnExactPutVecSaid : Prop := fnExactPutVecRow.holds Try.pinned (OpenSpec.ofChange fnExactPutVecSpec)

/-- ITS FALSE NEIGHBOUR: 'it returns false'. Refute it at one input. -/
def fnExactPutVecWrong : ChangeSpec := { name := "fnExactPutVec", fn := fun _ => fun
  | [d] => { results := [.lit (.bool false)], args := [d] }
  | _ => none }
def FnExactPutVecWrongFalsely : Prop := fnExactPutVecRow.holds Try.pinned (OpenSpec.ofChange fnExactPutVecWrong)

/-- 'laws.FnExactGetVec': WHATEVER THE INPUT: true; the input reads as it did. -/
def fnExactGetVecSpec : ChangeSpec := { name := "fnExactGetVec", fn := fun _ => fun
  | [d] => { results := [.lit (.bool true)], args := [d] }
  | _ => none }
def fnExactGetVecRow : OpenClaim := { program := "ytanonfdgckanhab", sum := "6b5530bef9e476f6b671e15dfb9406935e2cf5b5d924d1e784e8447e7380d0ed", func := "loop.example/g00326/laws.FnExactGetVec", spec := "fnExactGetVec", apart := false }
def FnExactGetVecSaid : Prop := fnExactGetVecRow.holds Try.pinned (OpenSpec.ofChange fnExactGetVecSpec)

/-- ITS FALSE NEIGHBOUR: 'it returns false'. Refute it at one input. -/
def fnExactGetVecWrong : ChangeSpec := { name := "fnExactGetVec", fn := fun _ => fun
  | [d] => { results := [.lit (.bool false)], args := [d] }
  | _ => none }
def FnExactGetVecWrongFalsely : Prop := fnExactGetVecRow.holds Try.pinned (OpenSpec.ofChange fnExactGetVecWrong)

/- THE SECOND FORM. 'bulk': how many values and letters a reading holds, each counted each time it is reached (what is shared counts as often as it is met; a slice's spare places count too). A statement '..UptoSaid' is the law's where the arguments, and the package variables that the reading takes, are together of bulk at most 1048576: NARROWER than '..Said'. Prove '..Said' where nothing that the law and all that it calls make is longer than what came in: it says more and counts as full. Else prove '..UptoSaid'. A law counts once. -/
mutual
def uptoBulk {H : Type} : DataW H → Nat
  | .lit (.string bytes) => bytes.length + 1
  | .lit _ => 1
  | .nil => 1
  | .ptr d => uptoBulk d + 1
  | .slice elems spare => uptoBulkAll elems + uptoBulkAll spare + 1
  | .agg parts => uptoBulkAll parts + 1
  | .iface _ d => uptoBulk d + 1
  | .map entries => uptoBulkEntries entries + 1
  | .held _ => 1
def uptoBulkAll {H : Type} : List (DataW H) → Nat
  | [] => 0
  | d :: r => uptoBulk d + uptoBulkAll r
def uptoBulkEntries {H : Type} : List (Lit × DataW H) → Nat
  | [] => 0
  | x :: r => uptoBulkEntry x + uptoBulkEntries r
def uptoBulkEntry {H : Type} : Lit × DataW H → Nat
  | (.string bytes, d) => bytes.length + uptoBulk d + 1
  | (_, d) => uptoBulk d + 1
 end
def uptoSmall : (H : Type) → List (DataW H) → Bool := fun _ ds => decide (uptoBulkAll ds ≤ 1048576)
def OpenSpec.upto (s : _root_.Go.ChangeSpec) : _root_.Go.OpenSpec := { _root_.Go.OpenSpec.ofChange s with cond := some uptoSmall }

/-- 'laws.FnExactStepVec', WHERE WHAT IT READS IS OF BULK AT MOST 1048576: true; the input reads as it did. -/
def fnExactStepVecUptoRow : OpenClaim := { program := "ytanonfdgckanhab", sum := "6b5530bef9e476f6b671e15dfb9406935e2cf5b5d924d1e784e8447e7380d0ed", func := "loop.example/g00326/laws.FnExactStepVec", spec := "fnExactStepVec", apart := false, narrowed := true }
def FnExactStepVecUptoSaid : Prop := fnExactStepVecUptoRow.holds Try.pinned (OpenSpec.upto fnExactStepVecSpec)

/-- 'laws.FnExactPutVec', WHERE WHAT IT READS IS OF BULK AT MOST 1048576: true; the input reads as it did. -/
def fnExactPutVecUptoRow : OpenClaim := { program := "ytanonfdgckanhab", sum := "6b5530bef9e476f6b671e15dfb9406935e2cf5b5d924d1e784e8447e7380d0ed", func := "loop.example/g00326/laws.FnExactPutVec", spec := "fnExactPutVec", apart := false, narrowed := true }
def FnExactPutVecUptoSaid : Prop := fnExactPutVecUptoRow.holds Try.pinned (OpenSpec.upto fnExactPutVecSpec)

/-- 'laws.FnExactGetVec', WHERE WHAT IT READS IS OF BULK AT MOST 1048576: true; the input reads as it did. -/
def fnExactGetVecUptoRow : OpenClaim := { program := "ytanonfdgckanhab", sum := "6b5530bef9e476f6b671e15dfb9406935e2cf5b5d924d1e784e8447e7380d0ed", func := "loop.example/g00326/laws.FnExactGetVec", spec := "fnExactGetVec", apart := false, narrowed := true }
def FnExactGetVecUptoSaid : Prop := fnExactGetVecUptoRow.holds Try.pinned (OpenSpec.upto fnExactGetVecSpec)

end Rows
end Go.Proofs.Ytanonfdgckanhab
