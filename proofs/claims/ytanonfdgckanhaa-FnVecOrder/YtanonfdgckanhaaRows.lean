/-
  No cell of these rows narrows 'for every input' (looked for: loops, veiled, ifaces, maps, wideKeys, modest, calm, conditions, laid).
  DERIVED. THE GIVEN ROWS OF THIS SEAT. 6 by the template 'for every input the law returns true; each argument reads behind the call as it read before'; 0 by the template 'total and deterministic' (their statements: YtanonfdgckanhaaTotals.lean).
  GIVEN WITH THE SEED: the statements are not yours to turn. If you find one false, say at which input.
  Laid BY PROGRAM, IN A SANDBOX (cutbox-rows.mjs): the forced cells as the released guide's own fill.sh prints them over the translation d443a08432f07eb8… (all of the seat's roots in one cut). By AI agents, Wed Nov 11 2026. No macro, syntax, notation, axiom, sorry.
-/
import Derived.Test.YtanonfdgckanhaaChecked
import GoSem.Claim
import GoSem.ClaimJoined
import GoSem.ClaimMapViews
import Derived.JoinedTies
import Derived.KernelRfl
namespace Go.Proofs.Ytanonfdgckanhaa
/- THE CELL 'sum', in the pinned program and in every row, IS THE sha256 OF THE DUMP (.gsa) THAT YtanonfdgckanhaaProg.lean LOADS. Nothing in Lean hashes anything: it is a label: what it is worth is what the hold of that sum in a sandbox is worth. -/
noncomputable def Try.pinned : Pinned := { name := "ytanonfdgckanhaa", sum := "d443a08432f07eb89a20f041303f7f65e69f9657f35ef8859242e6a81464b99e", checked := Try.checked }
namespace Rows
def none {H : Type} : Left H := { results := [], args := [] }

/-- 'laws.FnFrames': WHATEVER THE INPUT: true; the input reads as it did. -/
def fnFramesSpec : ChangeSpec := { name := "fnFrames", fn := fun _ => fun
  | [d] => { results := [.lit (.bool true)], args := [d] }
  | _ => none }
def fnFramesRow : OpenClaim := { program := "ytanonfdgckanhaa", sum := "d443a08432f07eb89a20f041303f7f65e69f9657f35ef8859242e6a81464b99e", func := "loop.example/g00326/laws.FnFrames", spec := "fnFrames", apart := false }
def FnFramesSaid : Prop := fnFramesRow.holds Try.pinned (OpenSpec.ofChange fnFramesSpec)

/-- ITS FALSE NEIGHBOUR: 'it returns false'. Refute it at one input. -/
def fnFramesWrong : ChangeSpec := { name := "fnFrames", fn := fun _ => fun
  | [d] => { results := [.lit (.bool false)], args := [d] }
  | _ => none }
def FnFramesWrongFalsely : Prop := fnFramesRow.holds Try.pinned (OpenSpec.ofChange fnFramesWrong)

/-- 'laws.FnVecs': WHATEVER THE INPUT: true; the input reads as it did. -/
def fnVecsSpec : ChangeSpec := { name := "fnVecs", fn := fun _ => fun
  | [d] => { results := [.lit (.bool true)], args := [d] }
  | _ => none }
def fnVecsRow : OpenClaim := { program := "ytanonfdgckanhaa", sum := "d443a08432f07eb89a20f041303f7f65e69f9657f35ef8859242e6a81464b99e", func := "loop.example/g00326/laws.FnVecs", spec := "fnVecs", apart := false }
def FnVecsSaid : Prop := fnVecsRow.holds Try.pinned (OpenSpec.ofChange fnVecsSpec)

/-- ITS FALSE NEIGHBOUR: 'it returns false'. Refute it at one input. -/
def fnVecsWrong : ChangeSpec := { name := "fnVecs", fn := fun _ => fun
  | [d] => { results := [.lit (.bool false)], args := [d] }
  | _ => none }
def FnVecsWrongFalsely : Prop := fnVecsRow.holds Try.pinned (OpenSpec.ofChange fnVecsWrong)

/-- 'laws.FnVecOrder': WHATEVER THE INPUT: true; the input reads as it did. -/
def fnVecOrderSpec : ChangeSpec := { name := "fnVecOrder", fn := fun _ => fun
  | [d] => { results := [.lit (.bool true)], args := [d] }
  | _ => none }
def fnVecOrderRow : OpenClaim := { program := "ytanonfdgckanhaa", sum := "d443a08432f07eb89a20f041303f7f65e69f9657f35ef8859242e6a81464b99e", func := "loop.example/g00326/laws.FnVecOrder", spec := "fnVecOrder", apart := false }
def FnVecOrderSaid : Prop := fnVecOrderRow.holds Try.pinned (OpenSpec.ofChange fnVecOrderSpec)

/-- ITS FALSE NEIGHBOUR: 'it returns false'. Refute it at one input. -/
def fnVecOrderWrong : ChangeSpec := { name := "fnVecOrder", fn := fun _ => fun
  | [d] => { results := [.lit (.bool false)], args := [d] }
  | _ => none }
def FnVecOrderWrongFalsely : Prop := fnVecOrderRow.holds Try.pinned (OpenSpec.ofChange fnVecOrderWrong)

/-- 'laws.FnExactGetFrame': WHATEVER THE INPUT: true; the input reads as it did. -/
def fnExactGetFrameSpec : ChangeSpec := { name := "fnExactGetFrame", fn := fun _ => fun
  | [d] => { results := [.lit (.bool true)], args := [d] }
  | _ => none }
def fnExactGetFrameRow : OpenClaim := { program := "ytanonfdgckanhaa", sum := "d443a08432f07eb89a20f041303f7f65e69f9657f35ef8859242e6a81464b99e", func := "loop.example/g00326/laws.FnExactGetFrame", spec := "fnExactGetFrame", apart := false }
def FnExactGetFrameSaid : Prop := fnExactGetFrameRow.holds Try.pinned (OpenSpec.ofChange fnExactGetFrameSpec)

/-- ITS FALSE NEIGHBOUR: 'it returns false'. Refute it at one input. -/
def fnExactGetFrameWrong : ChangeSpec := { name := "fnExactGetFrame", fn := fun _ => fun
  | [d] => { results := [.lit (.bool false)], args := [d] }
  | _ => none }
def FnExactGetFrameWrongFalsely : Prop := fnExactGetFrameRow.holds Try.pinned (OpenSpec.ofChange fnExactGetFrameWrong)

/-- 'laws.FnExactVecOk': WHATEVER THE INPUT: true; the input reads as it did. -/
def fnExactVecOkSpec : ChangeSpec := { name := "fnExactVecOk", fn := fun _ => fun
  | [d] => { results := [.lit (.bool true)], args := [d] }
  | _ => none }
def fnExactVecOkRow : OpenClaim := { program := "ytanonfdgckanhaa", sum := "d443a08432f07eb89a20f041303f7f65e69f9657f35ef8859242e6a81464b99e", func := "loop.example/g00326/laws.FnExactVecOk", spec := "fnExactVecOk", apart := false }
def FnExactVecOkSaid : Prop := fnExactVecOkRow.holds Try.pinned (OpenSpec.ofChange fnExactVecOkSpec)

/-- ITS FALSE NEIGHBOUR: 'it returns false'. Refute it at one input. -/
def fnExactVecOkWrong : ChangeSpec := { name := "fnExactVecOk", fn := fun _ => fun
  | [d] => { results := [.lit (.bool false)], args := [d] }
  | _ => none }
def FnExactVecOkWrongFalsely : Prop := fnExactVecOkRow.holds Try.pinned (OpenSpec.ofChange fnExactVecOkWrong)

/-- 'laws.FnExactLessVec': WHATEVER THE INPUT: true; the input reads as it did. -/
def fnExactLessVecSpec : ChangeSpec := { name := "fnExactLessVec", fn := fun _ => fun
  | [d1, d2] => { results := [.lit (.bool true)], args := [d1, d2] }
  | _ => none }
def fnExactLessVecRow : OpenClaim := { program := "ytanonfdgckanhaa", sum := "d443a08432f07eb89a20f041303f7f65e69f9657f35ef8859242e6a81464b99e", func := "loop.example/g00326/laws.FnExactLessVec", spec := "fnExactLessVec", apart := false }
def FnExactLessVecSaid : Prop := fnExactLessVecRow.holds Try.pinned (OpenSpec.ofChange fnExactLessVecSpec)

/-- ITS FALSE NEIGHBOUR: 'it returns false'. Refute it at one input. -/
def fnExactLessVecWrong : ChangeSpec := { name := "fnExactLessVec", fn := fun _ => fun
  | [d1, d2] => { results := [.lit (.bool false)], args := [d1, d2] }
  | _ => none }
def FnExactLessVecWrongFalsely : Prop := fnExactLessVecRow.holds Try.pinned (OpenSpec.ofChange fnExactLessVecWrong)

/- THE SECOND FORM. 'bulk': how many values and letters a reading holds, each counted each time it is reached (what is shared counts as often as it is met; a slice's spare places count too). A statement '..UptoSaid' is the law's where the arguments, and the package variables that the reading takes, are together of bulk at most 1048576: NARROWER than '..Said'. Prove '..Said' where nothing that the law and all that it calls make is longer than what came in: it says more and counts as full. Else prove '..UptoSaid'. A law counts once. -/
mutual
def uptoBulk {H : Type} : DataW H → Nat
  | .lit (.string bytes) => bytes.length + 1
  | .lit _ => 1
  | .nil => 1
  | .ptr d => uptoBulk d + 1
  | .slice elems spare => uptoBulkAll elems + uptoBulkAll spare + 1
  | .agg parts => uptoBulkAll parts + 1
  | .iface _ d => uptoBulk d + 1
  | .map entries => uptoBulkEntries entries + 1
  | .held _ => 1
def uptoBulkAll {H : Type} : List (DataW H) → Nat
  | [] => 0
  | d :: r => uptoBulk d + uptoBulkAll r
def uptoBulkEntries {H : Type} : List (Lit × DataW H) → Nat
  | [] => 0
  | x :: r => uptoBulkEntry x + uptoBulkEntries r
def uptoBulkEntry {H : Type} : Lit × DataW H → Nat
  | (.string bytes, d) => bytes.length + uptoBulk d + 1
  | (_, d) => uptoBulk d + 1
 end
def uptoSmall : (H : Type) → List (DataW H) → Bool := fun _ ds => decide (uptoBulkAll ds ≤ 1048576)
def OpenSpec.upto (s : _root_.Go.ChangeSpec) : _root_.Go.OpenSpec := { _root_.Go.OpenSpec.ofChange s with cond := some uptoSmall }

/-- 'laws.FnFrames', WHERE WHAT IT READS IS OF BULK AT MOST 1048576: true; the input reads as it did. -/
def fnFramesUptoRow : OpenClaim := { program := "ytanonfdgckanhaa", sum := "d443a08432f07eb89a20f041303f7f65e69f9657f35ef8859242e6a81464b99e", func := "loop.example/g00326/laws.FnFrames", spec := "fnFrames", apart := false, narrowed := true }
def FnFramesUptoSaid : Prop := fnFramesUptoRow.holds Try.pinned (OpenSpec.upto fnFramesSpec)

/-- 'laws.FnVecs', WHERE WHAT IT READS IS OF BULK AT MOST 1048576: true; the input reads as it did. -/
def fnVecsUptoRow : OpenClaim := { program := "ytanonfdgckanhaa", sum := "d443a08432f07eb89a20f041303f7f65e69f9657f35ef8859242e6a81464b99e", func := "loop.example/g00326/laws.FnVecs", spec := "fnVecs", apart := false, narrowed := true }
def FnVecsUptoSaid : Prop := fnVecsUptoRow.holds Try.pinned (OpenSpec.upto fnVecsSpec)

/-- 'laws.FnVecOrder', WHERE WHAT IT READS IS OF BULK AT MOST 1048576: true; the input reads as it did. -/
def fnVecOrderUptoRow : OpenClaim := { program := "ytanonfdgckanhaa", sum := "d443a08432f07eb89a20f041303f7f65e69f9657f35ef8859242e6a81464b99e", func := "loop.example/g00326/laws.FnVecOrder", spec := "fnVecOrder", apart := false, narrowed := true }
def FnVecOrderUptoSaid : Prop := fnVecOrderUptoRow.holds Try.pinned (OpenSpec.upto fnVecOrderSpec)

/-- 'laws.FnExactGetFrame', WHERE WHAT IT READS IS OF BULK AT MOST 1048576: true; the input reads as it did. -/
def fnExactGetFrameUptoRow : OpenClaim := { program := "ytanonfdgckanhaa", sum := "d443a08432f07eb89a20f041303f7f65e69f9657f35ef8859242e6a81464b99e", func := "loop.example/g00326/laws.FnExactGetFrame", spec := "fnExactGetFrame", apart := false, narrowed := true }
def FnExactGetFrameUptoSaid : Prop := fnExactGetFrameUptoRow.holds Try.pinned (OpenSpec.upto fnExactGetFrameSpec)

/-- 'laws.FnExactVecOk', WHERE WHAT IT READS IS OF BULK AT MOST 1048576: true; the input reads as it did. -/
def fnExactVecOkUptoRow : OpenClaim := { program := "ytanonfdgckanhaa", sum := "d443a08432f07eb89a20f041303f7f65e69f9657f35ef8859242e6a81464b99e", func := "loop.example/g00326/laws.FnExactVecOk", spec := "fnExactVecOk", apart := false, narrowed := true }
def FnExactVecOkUptoSaid : Prop := fnExactVecOkUptoRow.holds Try.pinned (OpenSpec.upto fnExactVecOkSpec)

/-- 'laws.FnExactLessVec', WHERE WHAT IT READS IS OF BULK AT MOST 1048576: true; the input reads as it did. -/
def fnExactLessVecUptoRow : OpenClaim := { program := "ytanonfdgckanhaa", sum := "d443a08432f07eb89a20f041303f7f65e69f9657f35ef8859242e6a81464b99e", func := "loop.example/g00326/laws.FnExactLessVec", spec := "fnExactLessVec", apart := false, narrowed := true }
def FnExactLessVecUptoSaid : Prop := fnExactLessVecUptoRow.holds Try.pinned (OpenSpec.upto fnExactLessVecSpec)

end Rows
end Go.Proofs.Ytanonfdgckanhaa
