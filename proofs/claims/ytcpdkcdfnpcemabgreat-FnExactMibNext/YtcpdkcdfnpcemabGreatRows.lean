/-
  No cell of these rows narrows 'for every input' (looked for: loops, veiled, ifaces, maps, wideKeys, modest, calm, conditions, laid).
  DERIVED. THE GIVEN ROWS OF THIS SEAT. 4 by the template 'for every input the law returns true; each argument reads behind the call as it read before'; 0 by the template 'total and deterministic' (their statements: YtcpdkcdfnpcemabGreatTotals.lean).
  GIVEN WITH THE SEED: the statements are not yours to turn. If you find one false, say at which input.
  Laid BY PROGRAM, IN A SANDBOX (cutbox-rows.mjs): the forced cells as the released guide's own fill.sh prints them over the translation 77caa6578c7d7fa1… (all of the seat's roots in one cut). By AI agents, Wed Nov 11 2026. No macro, syntax, notation, axiom, sorry.
-/
import Derived.Test.YtcpdkcdfnpcemabGreatChecked
import GoSem.Claim
import GoSem.ClaimJoined
import GoSem.ClaimMapViews
import Derived.JoinedTies
import Derived.KernelRfl
namespace Go.Proofs.YtcpdkcdfnpcemabGreat
/- THE CELL 'sum', in the pinned program and in every row, IS THE sha256 OF THE DUMP (.gsa) THAT YtcpdkcdfnpcemabGreatProg.lean LOADS. Nothing in Lean hashes anything: it is a label: what it is worth is what the hold of that sum in a sandbox is worth. -/
noncomputable def Tryz.pinned : Pinned := { name := "ytcpdkcdfnpcemabgreat", sum := "77caa6578c7d7fa12038f11098da4e24d981fbb8c39f4d5ca6e4855c620020ad", checked := Tryz.checked }
namespace Rows
def none {H : Type} : Left H := { results := [], args := [] }

/-- 'laws.FnExactMibGet': WHATEVER THE INPUT: true; the input reads as it did. -/
def fnExactMibGetSpec : ChangeSpec := { name := "fnExactMibGet", fn := fun _ => fun
  | [d1, d2] => { results := [.lit (.bool true)], args := [d1, d2] }
  | _ => none }
def fnExactMibGetRow : OpenClaim := { program := "ytcpdkcdfnpcemabgreat", sum := "77caa6578c7d7fa12038f11098da4e24d981fbb8c39f4d5ca6e4855c620020ad", func := "loop.example/g00326/laws.FnExactMibGet", spec := "fnExactMibGet", unfollowed := true, recurses := true, plainKeys := false, apart := false }
def FnExactMibGetSaid : Prop := fnExactMibGetRow.holds Tryz.pinned (OpenSpec.ofChange fnExactMibGetSpec)

/-- ITS FALSE NEIGHBOUR: 'it returns false'. Refute it at one input. -/
def fnExactMibGetWrong : ChangeSpec := { name := "fnExactMibGet", fn := fun _ => fun
  | [d1, d2] => { results := [.lit (.bool false)], args := [d1, d2] }
  | _ => none }
def FnExactMibGetWrongFalsely : Prop := fnExactMibGetRow.holds Tryz.pinned (OpenSpec.ofChange fnExactMibGetWrong)

/-- 'laws.FnExactMibNext': WHATEVER THE INPUT: true; the input reads as it did. -/
def fnExactMibNextSpec : ChangeSpec := { name := "fnExactMibNext", fn := fun _ => fun
  | [d1, d2] => { results := [.lit (.bool true)], args := [d1, d2] }
  | _ => none }
def fnExactMibNextRow : OpenClaim := { program := "ytcpdkcdfnpcemabgreat", sum := "77caa6578c7d7fa12038f11098da4e24d981fbb8c39f4d5ca6e4855c620020ad", func := "loop.example/g00326/laws.FnExactMibNext", spec := "fnExactMibNext", unfollowed := true, recurses := true, plainKeys := false, apart := false }
def FnExactMibNextSaid : Prop := fnExactMibNextRow.holds Tryz.pinned (OpenSpec.ofChange fnExactMibNextSpec)

/-- ITS FALSE NEIGHBOUR: 'it returns false'. Refute it at one input. -/
def fnExactMibNextWrong : ChangeSpec := { name := "fnExactMibNext", fn := fun _ => fun
  | [d1, d2] => { results := [.lit (.bool false)], args := [d1, d2] }
  | _ => none }
def FnExactMibNextWrongFalsely : Prop := fnExactMibNextRow.holds Tryz.pinned (OpenSpec.ofChange fnExactMibNextWrong)

/-- 'laws.FnExactSetOne': WHATEVER THE INPUT: true; the input reads as it did. -/
def fnExactSetOneSpec : ChangeSpec := { name := "fnExactSetOne", fn := fun _ => fun
  | [d1, d2] => { results := [.lit (.bool true)], args := [d1, d2] }
  | _ => none }
def fnExactSetOneRow : OpenClaim := { program := "ytcpdkcdfnpcemabgreat", sum := "77caa6578c7d7fa12038f11098da4e24d981fbb8c39f4d5ca6e4855c620020ad", func := "loop.example/g00326/laws.FnExactSetOne", spec := "fnExactSetOne", unfollowed := true, recurses := true, plainKeys := false, apart := false }
def FnExactSetOneSaid : Prop := fnExactSetOneRow.holds Tryz.pinned (OpenSpec.ofChange fnExactSetOneSpec)

/-- ITS FALSE NEIGHBOUR: 'it returns false'. Refute it at one input. -/
def fnExactSetOneWrong : ChangeSpec := { name := "fnExactSetOne", fn := fun _ => fun
  | [d1, d2] => { results := [.lit (.bool false)], args := [d1, d2] }
  | _ => none }
def FnExactSetOneWrongFalsely : Prop := fnExactSetOneRow.holds Tryz.pinned (OpenSpec.ofChange fnExactSetOneWrong)

/-- 'laws.FnExactSetAll': WHATEVER THE INPUT: true; the input reads as it did. -/
def fnExactSetAllSpec : ChangeSpec := { name := "fnExactSetAll", fn := fun _ => fun
  | [d1, d2] => { results := [.lit (.bool true)], args := [d1, d2] }
  | _ => none }
def fnExactSetAllRow : OpenClaim := { program := "ytcpdkcdfnpcemabgreat", sum := "77caa6578c7d7fa12038f11098da4e24d981fbb8c39f4d5ca6e4855c620020ad", func := "loop.example/g00326/laws.FnExactSetAll", spec := "fnExactSetAll", unfollowed := true, recurses := true, plainKeys := false, apart := false }
def FnExactSetAllSaid : Prop := fnExactSetAllRow.holds Tryz.pinned (OpenSpec.ofChange fnExactSetAllSpec)

/-- ITS FALSE NEIGHBOUR: 'it returns false'. Refute it at one input. -/
def fnExactSetAllWrong : ChangeSpec := { name := "fnExactSetAll", fn := fun _ => fun
  | [d1, d2] => { results := [.lit (.bool false)], args := [d1, d2] }
  | _ => none }
def FnExactSetAllWrongFalsely : Prop := fnExactSetAllRow.holds Tryz.pinned (OpenSpec.ofChange fnExactSetAllWrong)

/- THE SECOND FORM. 'bulk': how many values and letters a reading holds, each counted each time it is reached (what is shared counts as often as it is met; a slice's spare places count too). A statement '..UptoSaid' is the law's where the arguments, and the package variables that the reading takes, are together of bulk at most 1048576: NARROWER than '..Said'. Prove '..Said' where nothing that the law and all that it calls make is longer than what came in: it says more and counts as full. Else prove '..UptoSaid'. A law counts once. -/
mutual
def uptoBulk {H : Type} : DataW H → Nat
  | .lit (.string bytes) => bytes.length + 1
  | .lit _ => 1
  | .nil => 1
  | .ptr d => uptoBulk d + 1
  | .slice elems spare => uptoBulkAll elems + uptoBulkAll spare + 1
  | .agg parts => uptoBulkAll parts + 1
  | .iface _ d => uptoBulk d + 1
  | .map entries => uptoBulkEntries entries + 1
  | .held _ => 1
def uptoBulkAll {H : Type} : List (DataW H) → Nat
  | [] => 0
  | d :: r => uptoBulk d + uptoBulkAll r
def uptoBulkEntries {H : Type} : List (Lit × DataW H) → Nat
  | [] => 0
  | x :: r => uptoBulkEntry x + uptoBulkEntries r
def uptoBulkEntry {H : Type} : Lit × DataW H → Nat
  | (.string bytes, d) => bytes.length + uptoBulk d + 1
  | (_, d) => uptoBulk d + 1
 end
def uptoSmall : (H : Type) → List (DataW H) → Bool := fun _ ds => decide (uptoBulkAll ds ≤ 1048576)
def OpenSpec.upto (s : _root_.Go.ChangeSpec) : _root_.Go.OpenSpec := { _root_.Go.OpenSpec.ofChange s with cond := some uptoSmall }

/-- 'laws.FnExactMibGet', WHERE WHAT IT READS IS OF BULK AT MOST 1048576: true; the input reads as it did. -/
def fnExactMibGetUptoRow : OpenClaim := { program := "ytcpdkcdfnpcemabgreat", sum := "77caa6578c7d7fa12038f11098da4e24d981fbb8c39f4d5ca6e4855c620020ad", func := "loop.example/g00326/laws.FnExactMibGet", spec := "fnExactMibGet", unfollowed := true, recurses := true, plainKeys := false, apart := false, narrowed := true }
def FnExactMibGetUptoSaid : Prop := fnExactMibGetUptoRow.holds Tryz.pinned (OpenSpec.upto fnExactMibGetSpec)

/-- 'laws.FnExactMibNext', WHERE WHAT IT READS IS OF BULK AT MOST 1048576: true; the input reads as it did. -/
def fnExactMibNextUptoRow : OpenClaim := { program := "ytcpdkcdfnpcemabgreat", sum := "77caa6578c7d7fa12038f11098da4e24d981fbb8c39f4d5ca6e4855c620020ad", func := "loop.example/g00326/laws.FnExactMibNext", spec := "fnExactMibNext", unfollowed := true, recurses := true, plainKeys := false, apart := false, narrowed := true }
def FnExactMibNextUptoSaid : Prop := fnExactMibNextUptoRow.holds Tryz.pinned (OpenSpec.upto fnExactMibNextSpec)

/-- 'laws.FnExactSetOne', WHERE WHAT IT READS IS OF BULK AT MOST 1048576: true; the input reads as it did. -/
def fnExactSetOneUptoRow : OpenClaim := { program := "ytcpdkcdfnpcemabgreat", sum := "77caa6578c7d7fa12038f11098da4e24d981fbb8c39f4d5ca6e4855c620020ad", func := "loop.example/g00326/laws.FnExactSetOne", spec := "fnExactSetOne", unfollowed := true, recurses := true, plainKeys := false, apart := false, narrowed := true }
def FnExactSetOneUptoSaid : Prop := fnExactSetOneUptoRow.holds Tryz.pinned (OpenSpec.upto fnExactSetOneSpec)

/-- 'laws.FnExactSetAll', WHERE WHAT IT READS IS OF BULK AT MOST 1048576: true; the input reads as it did. -/
def fnExactSetAllUptoRow : OpenClaim := { program := "ytcpdkcdfnpcemabgreat", sum := "77caa6578c7d7fa12038f11098da4e24d981fbb8c39f4d5ca6e4855c620020ad", func := "loop.example/g00326/laws.FnExactSetAll", spec := "fnExactSetAll", unfollowed := true, recurses := true, plainKeys := false, apart := false, narrowed := true }
def FnExactSetAllUptoSaid : Prop := fnExactSetAllUptoRow.holds Tryz.pinned (OpenSpec.upto fnExactSetAllSpec)

end Rows
end Go.Proofs.YtcpdkcdfnpcemabGreat
