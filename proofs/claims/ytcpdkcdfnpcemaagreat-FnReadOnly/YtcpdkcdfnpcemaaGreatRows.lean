/-
  No cell of these rows narrows 'for every input' (looked for: loops, veiled, ifaces, maps, wideKeys, modest, calm, conditions, laid).
  DERIVED. THE GIVEN ROWS OF THIS SEAT. 6 by the template 'for every input the law returns true; each argument reads behind the call as it read before'; 0 by the template 'total and deterministic' (their statements: YtcpdkcdfnpcemaaGreatTotals.lean).
  GIVEN WITH THE SEED: the statements are not yours to turn. If you find one false, say at which input.
  Laid BY PROGRAM, IN A SANDBOX (cutbox-rows.mjs): the forced cells as the released guide's own fill.sh prints them over the translation adb7ea54bc681eb9… (all of the seat's roots in one cut). By AI agents, Wed Nov 11 2026. No macro, syntax, notation, axiom, sorry.
-/
import Derived.Test.YtcpdkcdfnpcemaaGreatChecked
import GoSem.Claim
import GoSem.ClaimJoined
import GoSem.ClaimMapViews
import Derived.JoinedTies
import Derived.KernelRfl
namespace Go.Proofs.YtcpdkcdfnpcemaaGreat
/- THE CELL 'sum', in the pinned program and in every row, IS THE sha256 OF THE DUMP (.gsa) THAT YtcpdkcdfnpcemaaGreatProg.lean LOADS. Nothing in Lean hashes anything: it is a label: what it is worth is what the hold of that sum in a sandbox is worth. -/
noncomputable def Tryz.pinned : Pinned := { name := "ytcpdkcdfnpcemaagreat", sum := "adb7ea54bc681eb973bcf7c9845908d69ec3f0f2d39df7222871fc203bc67672", checked := Tryz.checked }
namespace Rows
def none {H : Type} : Left H := { results := [], args := [] }

/-- 'laws.FnNexts': WHATEVER THE INPUT: true; the input reads as it did. -/
def fnNextsSpec : ChangeSpec := { name := "fnNexts", fn := fun _ => fun
  | [d] => { results := [.lit (.bool true)], args := [d] }
  | _ => none }
def fnNextsRow : OpenClaim := { program := "ytcpdkcdfnpcemaagreat", sum := "adb7ea54bc681eb973bcf7c9845908d69ec3f0f2d39df7222871fc203bc67672", func := "loop.example/g00326/laws.FnNexts", spec := "fnNexts", unfollowed := true, recurses := true, plainKeys := false, apart := false }
def FnNextsSaid : Prop := fnNextsRow.holds Tryz.pinned (OpenSpec.ofChange fnNextsSpec)

/-- ITS FALSE NEIGHBOUR: 'it returns false'. Refute it at one input. -/
def fnNextsWrong : ChangeSpec := { name := "fnNexts", fn := fun _ => fun
  | [d] => { results := [.lit (.bool false)], args := [d] }
  | _ => none }
def FnNextsWrongFalsely : Prop := fnNextsRow.holds Tryz.pinned (OpenSpec.ofChange fnNextsWrong)

/-- 'laws.FnSets': WHATEVER THE INPUT: true; the input reads as it did. -/
def fnSetsSpec : ChangeSpec := { name := "fnSets", fn := fun _ => fun
  | [d] => { results := [.lit (.bool true)], args := [d] }
  | _ => none }
def fnSetsRow : OpenClaim := { program := "ytcpdkcdfnpcemaagreat", sum := "adb7ea54bc681eb973bcf7c9845908d69ec3f0f2d39df7222871fc203bc67672", func := "loop.example/g00326/laws.FnSets", spec := "fnSets", unfollowed := true, recurses := true, plainKeys := false, apart := false }
def FnSetsSaid : Prop := fnSetsRow.holds Tryz.pinned (OpenSpec.ofChange fnSetsSpec)

/-- ITS FALSE NEIGHBOUR: 'it returns false'. Refute it at one input. -/
def fnSetsWrong : ChangeSpec := { name := "fnSets", fn := fun _ => fun
  | [d] => { results := [.lit (.bool false)], args := [d] }
  | _ => none }
def FnSetsWrongFalsely : Prop := fnSetsRow.holds Tryz.pinned (OpenSpec.ofChange fnSetsWrong)

/-- 'laws.FnOneByOne': WHATEVER THE INPUT: true; the input reads as it did. -/
def fnOneByOneSpec : ChangeSpec := { name := "fnOneByOne", fn := fun _ => fun
  | [d] => { results := [.lit (.bool true)], args := [d] }
  | _ => none }
def fnOneByOneRow : OpenClaim := { program := "ytcpdkcdfnpcemaagreat", sum := "adb7ea54bc681eb973bcf7c9845908d69ec3f0f2d39df7222871fc203bc67672", func := "loop.example/g00326/laws.FnOneByOne", spec := "fnOneByOne", unfollowed := true, recurses := true, plainKeys := false, apart := false }
def FnOneByOneSaid : Prop := fnOneByOneRow.holds Tryz.pinned (OpenSpec.ofChange fnOneByOneSpec)

/-- ITS FALSE NEIGHBOUR: 'it returns false'. Refute it at one input. -/
def fnOneByOneWrong : ChangeSpec := { name := "fnOneByOne", fn := fun _ => fun
  | [d] => { results := [.lit (.bool false)], args := [d] }
  | _ => none }
def FnOneByOneWrongFalsely : Prop := fnOneByOneRow.holds Tryz.pinned (OpenSpec.ofChange fnOneByOneWrong)

/-- 'laws.FnReadOnly': WHATEVER THE INPUT: true; the input reads as it did. -/
def fnReadOnlySpec : ChangeSpec := { name := "fnReadOnly", fn := fun _ => fun
  | [d] => { results := [.lit (.bool true)], args := [d] }
  | _ => none }
def fnReadOnlyRow : OpenClaim := { program := "ytcpdkcdfnpcemaagreat", sum := "adb7ea54bc681eb973bcf7c9845908d69ec3f0f2d39df7222871fc203bc67672", func := "loop.example/g00326/laws.FnReadOnly", spec := "fnReadOnly", unfollowed := true, recurses := true, plainKeys := false, apart := false }
def FnReadOnlySaid : Prop := fnReadOnlyRow.holds Tryz.pinned (OpenSpec.ofChange fnReadOnlySpec)

/-- ITS FALSE NEIGHBOUR: 'it returns false'. Refute it at one input. -/
def fnReadOnlyWrong : ChangeSpec := { name := "fnReadOnly", fn := fun _ => fun
  | [d] => { results := [.lit (.bool false)], args := [d] }
  | _ => none }
def FnReadOnlyWrongFalsely : Prop := fnReadOnlyRow.holds Tryz.pinned (OpenSpec.ofChange fnReadOnlyWrong)

/-- 'laws.FnVlans': WHATEVER THE INPUT: true; the input reads as it did. -/
def fnVlansSpec : ChangeSpec := { name := "fnVlans", fn := fun _ => fun
  | [d] => { results := [.lit (.bool true)], args := [d] }
  | _ => none }
def fnVlansRow : OpenClaim := { program := "ytcpdkcdfnpcemaagreat", sum := "adb7ea54bc681eb973bcf7c9845908d69ec3f0f2d39df7222871fc203bc67672", func := "loop.example/g00326/laws.FnVlans", spec := "fnVlans", inPlace := ["slices.overlaps[loop.example/g00326/impl.fentKey]"], unfollowed := true, recurses := true, plainKeys := false, apart := false }
def FnVlansSaid : Prop := fnVlansRow.holds Tryz.pinned (OpenSpec.ofChange fnVlansSpec)

/-- ITS FALSE NEIGHBOUR: 'it returns false'. Refute it at one input. -/
def fnVlansWrong : ChangeSpec := { name := "fnVlans", fn := fun _ => fun
  | [d] => { results := [.lit (.bool false)], args := [d] }
  | _ => none }
def FnVlansWrongFalsely : Prop := fnVlansRow.holds Tryz.pinned (OpenSpec.ofChange fnVlansWrong)

/-- 'laws.FnExactMibList': WHATEVER THE INPUT: true; the input reads as it did. -/
def fnExactMibListSpec : ChangeSpec := { name := "fnExactMibList", fn := fun _ => fun
  | [d] => { results := [.lit (.bool true)], args := [d] }
  | _ => none }
def fnExactMibListRow : OpenClaim := { program := "ytcpdkcdfnpcemaagreat", sum := "adb7ea54bc681eb973bcf7c9845908d69ec3f0f2d39df7222871fc203bc67672", func := "loop.example/g00326/laws.FnExactMibList", spec := "fnExactMibList", unfollowed := true, recurses := true, plainKeys := false, apart := false }
def FnExactMibListSaid : Prop := fnExactMibListRow.holds Tryz.pinned (OpenSpec.ofChange fnExactMibListSpec)

/-- ITS FALSE NEIGHBOUR: 'it returns false'. Refute it at one input. -/
def fnExactMibListWrong : ChangeSpec := { name := "fnExactMibList", fn := fun _ => fun
  | [d] => { results := [.lit (.bool false)], args := [d] }
  | _ => none }
def FnExactMibListWrongFalsely : Prop := fnExactMibListRow.holds Tryz.pinned (OpenSpec.ofChange fnExactMibListWrong)

/- THE SECOND FORM. 'bulk': how many values and letters a reading holds, each counted each time it is reached (what is shared counts as often as it is met; a slice's spare places count too). A statement '..UptoSaid' is the law's where the arguments, and the package variables that the reading takes, are together of bulk at most 1048576: NARROWER than '..Said'. Prove '..Said' where nothing that the law and all that it calls make is longer than what came in: it says more and counts as full. Else prove '..UptoSaid'. A law counts once. -/
mutual
def uptoBulk {H : Type} : DataW H → Nat
  | .lit (.string bytes) => bytes.length + 1
  | .lit _ => 1
  | .nil => 1
  | .ptr d => uptoBulk d + 1
  | .slice elems spare => uptoBulkAll elems + uptoBulkAll spare + 1
  | .agg parts => uptoBulkAll parts + 1
  | .iface _ d => uptoBulk d + 1
  | .map entries => uptoBulkEntries entries + 1
  | .held _ => 1
def uptoBulkAll {H : Type} : List (DataW H) → Nat
  | [] => 0
  | d :: r => uptoBulk d + uptoBulkAll r
def uptoBulkEntries {H : Type} : List (Lit × DataW H) → Nat
  | [] => 0
  | x :: r => uptoBulkEntry x + uptoBulkEntries r
def uptoBulkEntry {H : Type} : Lit × DataW H → Nat
  | (.string bytes, d) => bytes.length + uptoBulk d + 1
  | (_, d) => uptoBulk d + 1
 end
def uptoSmall : (H : Type) → List (DataW H) → Bool := fun _ ds => decide (uptoBulkAll ds ≤ 1048576)
def OpenSpec.upto (s : _root_.Go.ChangeSpec) : _root_.Go.OpenSpec := { _root_.Go.OpenSpec.ofChange s with cond := some uptoSmall }

/-- 'laws.FnNexts', WHERE WHAT IT READS IS OF BULK AT MOST 1048576: true; the input reads as it did. -/
def fnNextsUptoRow : OpenClaim := { program := "ytcpdkcdfnpcemaagreat", sum := "adb7ea54bc681eb973bcf7c9845908d69ec3f0f2d39df7222871fc203bc67672", func := "loop.example/g00326/laws.FnNexts", spec := "fnNexts", unfollowed := true, recurses := true, plainKeys := false, apart := false, narrowed := true }
def FnNextsUptoSaid : Prop := fnNextsUptoRow.holds Tryz.pinned (OpenSpec.upto fnNextsSpec)

/-- 'laws.FnSets', WHERE WHAT IT READS IS OF BULK AT MOST 1048576: true; the input reads as it did. -/
def fnSetsUptoRow : OpenClaim := { program := "ytcpdkcdfnpcemaagreat", sum := "adb7ea54bc681eb973bcf7c9845908d69ec3f0f2d39df7222871fc203bc67672", func := "loop.example/g00326/laws.FnSets", spec := "fnSets", unfollowed := true, recurses := true, plainKeys := false, apart := false, narrowed := true }
def FnSetsUptoSaid : Prop := fnSetsUptoRow.holds Tryz.pinned (OpenSpec.upto fnSetsSpec)

/-- 'laws.FnOneByOne', WHERE WHAT IT READS IS OF BULK AT MOST 1048576: true; the input reads as it did. -/
def fnOneByOneUptoRow : OpenClaim := { program := "ytcpdkcdfnpcemaagreat", sum := "adb7ea54bc681eb973bcf7c9845908d69ec3f0f2d39df7222871fc203bc67672", func := "loop.example/g00326/laws.FnOneByOne", spec := "fnOneByOne", unfollowed := true, recurses := true, plainKeys := false, apart := false, narrowed := true }
def FnOneByOneUptoSaid : Prop := fnOneByOneUptoRow.holds Tryz.pinned (OpenSpec.upto fnOneByOneSpec)

/-- 'laws.FnReadOnly', WHERE WHAT IT READS IS OF BULK AT MOST 1048576: true; the input reads as it did. -/
def fnReadOnlyUptoRow : OpenClaim := { program := "ytcpdkcdfnpcemaagreat", sum := "adb7ea54bc681eb973bcf7c9845908d69ec3f0f2d39df7222871fc203bc67672", func := "loop.example/g00326/laws.FnReadOnly", spec := "fnReadOnly", unfollowed := true, recurses := true, plainKeys := false, apart := false, narrowed := true }
def FnReadOnlyUptoSaid : Prop := fnReadOnlyUptoRow.holds Tryz.pinned (OpenSpec.upto fnReadOnlySpec)

/-- 'laws.FnVlans', WHERE WHAT IT READS IS OF BULK AT MOST 1048576: true; the input reads as it did. -/
def fnVlansUptoRow : OpenClaim := { program := "ytcpdkcdfnpcemaagreat", sum := "adb7ea54bc681eb973bcf7c9845908d69ec3f0f2d39df7222871fc203bc67672", func := "loop.example/g00326/laws.FnVlans", spec := "fnVlans", inPlace := ["slices.overlaps[loop.example/g00326/impl.fentKey]"], unfollowed := true, recurses := true, plainKeys := false, apart := false, narrowed := true }
def FnVlansUptoSaid : Prop := fnVlansUptoRow.holds Tryz.pinned (OpenSpec.upto fnVlansSpec)

/-- 'laws.FnExactMibList', WHERE WHAT IT READS IS OF BULK AT MOST 1048576: true; the input reads as it did. -/
def fnExactMibListUptoRow : OpenClaim := { program := "ytcpdkcdfnpcemaagreat", sum := "adb7ea54bc681eb973bcf7c9845908d69ec3f0f2d39df7222871fc203bc67672", func := "loop.example/g00326/laws.FnExactMibList", spec := "fnExactMibList", unfollowed := true, recurses := true, plainKeys := false, apart := false, narrowed := true }
def FnExactMibListUptoSaid : Prop := fnExactMibListUptoRow.holds Tryz.pinned (OpenSpec.upto fnExactMibListSpec)

end Rows
end Go.Proofs.YtcpdkcdfnpcemaaGreat
