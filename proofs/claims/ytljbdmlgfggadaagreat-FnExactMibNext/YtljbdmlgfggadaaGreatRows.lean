/-
  No cell of these rows narrows 'for every input' (looked for: loops, veiled, ifaces, maps, wideKeys, modest, calm, conditions, laid).
  DERIVED. THE GIVEN ROWS OF THIS SEAT. 4 by the template 'for every input the law returns true; each argument reads behind the call as it read before'; 0 by the template 'total and deterministic' (their statements: YtljbdmlgfggadaaGreatTotals.lean).
  GIVEN WITH THE SEED: the statements are not yours to turn. If you find one false, say at which input.
  Laid BY PROGRAM, IN A SANDBOX (cutbox-rows.mjs): the forced cells as the released guide's own fill.sh prints them over the translation cd954f1ed339d2a1… (all of the seat's roots in one cut). By AI agents, Wed Nov 11 2026. No macro, syntax, notation, axiom, sorry.
-/
import Derived.Test.YtljbdmlgfggadaaGreatChecked
import GoSem.Claim
import GoSem.ClaimJoined
import GoSem.ClaimMapViews
import Derived.JoinedTies
import Derived.KernelRfl
namespace Go.Proofs.YtljbdmlgfggadaaGreat
/- THE CELL 'sum', in the pinned program and in every row, IS THE sha256 OF THE DUMP (.gsa) THAT YtljbdmlgfggadaaGreatProg.lean LOADS. Nothing in Lean hashes anything: it is a label: what it is worth is what the hold of that sum in a sandbox is worth. -/
noncomputable def Tryz.pinned : Pinned := { name := "ytljbdmlgfggadaagreat", sum := "cd954f1ed339d2a1e9a5953aeb859e6deaea0c4c54f83d0ad610e03974664724", checked := Tryz.checked }
namespace Rows
def none {H : Type} : Left H := { results := [], args := [] }

/-- 'laws.FnNexts': WHATEVER THE INPUT: true; the input reads as it did. -/
def fnNextsSpec : ChangeSpec := { name := "fnNexts", fn := fun _ => fun
  | [d] => { results := [.lit (.bool true)], args := [d] }
  | _ => none }
def fnNextsRow : OpenClaim := { program := "ytljbdmlgfggadaagreat", sum := "cd954f1ed339d2a1e9a5953aeb859e6deaea0c4c54f83d0ad610e03974664724", func := "loop.example/g00326/laws.FnNexts", spec := "fnNexts", unfollowed := true, recurses := true, apart := false }
def FnNextsSaid : Prop := fnNextsRow.holds Tryz.pinned (OpenSpec.ofChange fnNextsSpec)

/-- ITS FALSE NEIGHBOUR: 'it returns false'. Refute it at one input. -/
def fnNextsWrong : ChangeSpec := { name := "fnNexts", fn := fun _ => fun
  | [d] => { results := [.lit (.bool false)], args := [d] }
  | _ => none }
def FnNextsWrongFalsely : Prop := fnNextsRow.holds Tryz.pinned (OpenSpec.ofChange fnNextsWrong)

/-- 'laws.FnExactMibList': WHATEVER THE INPUT: true; the input reads as it did. -/
def fnExactMibListSpec : ChangeSpec := { name := "fnExactMibList", fn := fun _ => fun
  | [d] => { results := [.lit (.bool true)], args := [d] }
  | _ => none }
def fnExactMibListRow : OpenClaim := { program := "ytljbdmlgfggadaagreat", sum := "cd954f1ed339d2a1e9a5953aeb859e6deaea0c4c54f83d0ad610e03974664724", func := "loop.example/g00326/laws.FnExactMibList", spec := "fnExactMibList", unfollowed := true, recurses := true, apart := false }
def FnExactMibListSaid : Prop := fnExactMibListRow.holds Tryz.pinned (OpenSpec.ofChange fnExactMibListSpec)

/-- ITS FALSE NEIGHBOUR: 'it returns false'. Refute it at one input. -/
def fnExactMibListWrong : ChangeSpec := { name := "fnExactMibList", fn := fun _ => fun
  | [d] => { results := [.lit (.bool false)], args := [d] }
  | _ => none }
def FnExactMibListWrongFalsely : Prop := fnExactMibListRow.holds Tryz.pinned (OpenSpec.ofChange fnExactMibListWrong)

/-- 'laws.FnExactMibGet': WHATEVER THE INPUT: true; the input reads as it did. -/
def fnExactMibGetSpec : ChangeSpec := { name := "fnExactMibGet", fn := fun _ => fun
  | [d1, d2] => { results := [.lit (.bool true)], args := [d1, d2] }
  | _ => none }
def fnExactMibGetRow : OpenClaim := { program := "ytljbdmlgfggadaagreat", sum := "cd954f1ed339d2a1e9a5953aeb859e6deaea0c4c54f83d0ad610e03974664724", func := "loop.example/g00326/laws.FnExactMibGet", spec := "fnExactMibGet", unfollowed := true, recurses := true, apart := false }
def FnExactMibGetSaid : Prop := fnExactMibGetRow.holds Tryz.pinned (OpenSpec.ofChange fnExactMibGetSpec)

/-- ITS FALSE NEIGHBOUR: 'it returns false'. Refute it at one input. -/
def fnExactMibGetWrong : ChangeSpec := { name := "fnExactMibGet", fn := fun _ => fun
  | [d1, d2] => { results := [.lit (.bool false)], args := [d1, d2] }
  | _ => none }
def FnExactMibGetWrongFalsely : Prop := fnExactMibGetRow.holds Tryz.pinned (OpenSpec.ofChange fnExactMibGetWrong)

/-- 'laws.FnExactMibNext': WHATEVER THE INPUT: true; the input reads as it did. -/
def fnExactMibNextSpec : ChangeSpec := { name := "fnExactMibNext", fn := fun _ => fun
  | [d1, d2] => { results := [.lit (.bool true)], args := [d1, d2] }
  | _ => none }
def fnExactMibNextRow : OpenClaim := { program := "ytljbdmlgfggadaagreat", sum := "cd954f1ed339d2a1e9a5953aeb859e6deaea0c4c54f83d0ad610e03974664724", func := "loop.example/g00326/laws.FnExactMibNext", spec := "fnExactMibNext", unfollowed := true, recurses := true, apart := false }
def FnExactMibNextSaid : Prop := fnExactMibNextRow.holds Tryz.pinned (OpenSpec.ofChange fnExactMibNextSpec)

/-- ITS FALSE NEIGHBOUR: 'it returns false'. Refute it at one input. -/
def fnExactMibNextWrong : ChangeSpec := { name := "fnExactMibNext", fn := fun _ => fun
  | [d1, d2] => { results := [.lit (.bool false)], args := [d1, d2] }
  | _ => none }
def FnExactMibNextWrongFalsely : Prop := fnExactMibNextRow.holds Tryz.pinned (OpenSpec.ofChange fnExactMibNextWrong)

/- THE SECOND FORM. 'bulk': how many values and letters a reading holds, each counted each time it is reached (what is shared counts as often as it is met; a slice's spare places count too). A statement '..UptoSaid' is the law's where the arguments, and the package variables that the reading takes, are together of bulk at most 1048576: NARROWER than '..Said'. Prove '..Said' where nothing that the law and all that it calls make is longer than what came in: it says more and counts as full. Else prove '..UptoSaid'. A law counts once. -/
mutual
def uptoBulk {H : Type} : DataW H → Nat
  | .lit (.string bytes) => bytes.length + 1
  | .lit _ => 1
  | .nil => 1
  | .ptr d => uptoBulk d + 1
  | .slice elems spare => uptoBulkAll elems + uptoBulkAll spare + 1
  | .agg parts => uptoBulkAll parts + 1
  | .iface _ d => uptoBulk d + 1
  | .map entries => uptoBulkEntries entries + 1
  | .held _ => 1
def uptoBulkAll {H : Type} : List (DataW H) → Nat
  | [] => 0
  | d :: r => uptoBulk d + uptoBulkAll r
def uptoBulkEntries {H : Type} : List (Lit × DataW H) → Nat
  | [] => 0
  | x :: r => uptoBulkEntry x + uptoBulkEntries r
def uptoBulkEntry {H : Type} : Lit × DataW H → Nat
  | (.string bytes, d) => bytes.length + uptoBulk d + 1
  | (_, d) => uptoBulk d + 1
 end
def uptoSmall : (H : Type) → List (DataW H) → Bool := fun _ ds => decide (uptoBulkAll ds ≤ 1048576)
def OpenSpec.upto (s : _root_.Go.ChangeSpec) : _root_.Go.OpenSpec := { _root_.Go.OpenSpec.ofChange s with cond := some uptoSmall }

/-- 'laws.FnNexts', WHERE WHAT IT READS IS OF BULK AT MOST 1048576: true; the input reads as it did. -/
def fnNextsUptoRow : OpenClaim := { program := "ytljbdmlgfggadaagreat", sum := "cd954f1ed339d2a1e9a5953aeb859e6deaea0c4c54f83d0ad610e03974664724", func := "loop.example/g00326/laws.FnNexts", spec := "fnNexts", unfollowed := true, recurses := true, apart := false, narrowed := true }
def FnNextsUptoSaid : Prop := fnNextsUptoRow.holds Tryz.pinned (OpenSpec.upto fnNextsSpec)

/-- 'laws.FnExactMibList', WHERE WHAT IT READS IS OF BULK AT MOST 1048576: true; the input reads as it did. -/
def fnExactMibListUptoRow : OpenClaim := { program := "ytljbdmlgfggadaagreat", sum := "cd954f1ed339d2a1e9a5953aeb859e6deaea0c4c54f83d0ad610e03974664724", func := "loop.example/g00326/laws.FnExactMibList", spec := "fnExactMibList", unfollowed := true, recurses := true, apart := false, narrowed := true }
def FnExactMibListUptoSaid : Prop := fnExactMibListUptoRow.holds Tryz.pinned (OpenSpec.upto fnExactMibListSpec)

/-- 'laws.FnExactMibGet', WHERE WHAT IT READS IS OF BULK AT MOST 1048576: true; the input reads as it did. -/
def fnExactMibGetUptoRow : OpenClaim := { program := "ytljbdmlgfggadaagreat", sum := "cd954f1ed339d2a1e9a5953aeb859e6deaea0c4c54f83d0ad610e03974664724", func := "loop.example/g00326/laws.FnExactMibGet", spec := "fnExactMibGet", unfollowed := true, recurses := true, apart := false, narrowed := true }
def FnExactMibGetUptoSaid : Prop := fnExactMibGetUptoRow.holds Tryz.pinned (OpenSpec.upto fnExactMibGetSpec)

/-- 'laws.FnExactMibNext', WHERE WHAT IT READS IS OF BULK AT MOST 1048576: true; the input reads as it did. -/
def fnExactMibNextUptoRow : OpenClaim := { program := "ytljbdmlgfggadaagreat", sum := "cd954f1ed339d2a1e9a5953aeb859e6deaea0c4c54f83d0ad610e03974664724", func := "loop.example/g00326/laws.FnExactMibNext", spec := "fnExactMibNext", unfollowed := true, recurses := true, apart := false, narrowed := true }
def FnExactMibNextUptoSaid : Prop := fnExactMibNextUptoRow.holds Tryz.pinned (OpenSpec.upto fnExactMibNextSpec)

end Rows
end Go.Proofs.YtljbdmlgfggadaaGreat
