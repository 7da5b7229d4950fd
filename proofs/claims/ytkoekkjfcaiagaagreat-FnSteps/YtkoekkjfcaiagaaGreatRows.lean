/-
  No cell of these rows narrows 'for every input' (looked for: loops, veiled, ifaces, maps, wideKeys, modest, calm, conditions, laid).
  DERIVED. THE GIVEN ROWS OF THIS SEAT. 4 by the template 'for every input the law returns true; each argument reads behind the call as it read before'; 0 by the template 'total and deterministic' (their statements: YtkoekkjfcaiagaaGreatTotals.lean).
  GIVEN WITH THE SEED: the statements are not yours to turn. If you find one false, say at which input.
  Laid BY PROGRAM, IN A SANDBOX (cutbox-rows.mjs): the forced cells as the released guide's own fill.sh prints them over the translation 04ad0a2c08be0bf6… (all of the seat's roots in one cut). By AI agents, Wed Nov 11 2026. No macro, syntax, notation, axiom, sorry.
-/
import Derived.Test.YtkoekkjfcaiagaaGreatChecked
import GoSem.Claim
import GoSem.ClaimJoined
import GoSem.ClaimMapViews
import Derived.JoinedTies
import Derived.KernelRfl
namespace Go.Proofs.YtkoekkjfcaiagaaGreat
/- THE CELL 'sum', in the pinned program and in every row, IS THE sha256 OF THE DUMP (.gsa) THAT YtkoekkjfcaiagaaGreatProg.lean LOADS. Nothing in Lean hashes anything: it is a label: what it is worth is what the hold of that sum in a sandbox is worth. -/
noncomputable def Tryz.pinned : Pinned := { name := "ytkoekkjfcaiagaagreat", sum := "04ad0a2c08be0bf66fcaadc370efe27dadfcccb58a600911cf6990219cf71fb0", checked := Tryz.checked }
namespace Rows
def none {H : Type} : Left H := { results := [], args := [] }

/-- 'laws.FnNets': WHATEVER THE INPUT: true; the input reads as it did. -/
def fnNetsSpec : ChangeSpec := { name := "fnNets", fn := fun _ => fun
  | [d] => { results := [.lit (.bool true)], args := [d] }
  | _ => none }
def fnNetsRow : OpenClaim := { program := "ytkoekkjfcaiagaagreat", sum := "04ad0a2c08be0bf66fcaadc370efe27dadfcccb58a600911cf6990219cf71fb0", func := "loop.example/g00326/laws.FnNets", spec := "fnNets", unfollowed := true, recurses := true, plainKeys := false, apart := false }
def FnNetsSaid : Prop := fnNetsRow.holds Tryz.pinned (OpenSpec.ofChange fnNetsSpec)

/-- ITS FALSE NEIGHBOUR: 'it returns false'. Refute it at one input. -/
def fnNetsWrong : ChangeSpec := { name := "fnNets", fn := fun _ => fun
  | [d] => { results := [.lit (.bool false)], args := [d] }
  | _ => none }
def FnNetsWrongFalsely : Prop := fnNetsRow.holds Tryz.pinned (OpenSpec.ofChange fnNetsWrong)

/-- 'laws.FnSteps': WHATEVER THE INPUT: true; the input reads as it did. -/
def fnStepsSpec : ChangeSpec := { name := "fnSteps", fn := fun _ => fun
  | [d] => { results := [.lit (.bool true)], args := [d] }
  | _ => none }
def fnStepsRow : OpenClaim := { program := "ytkoekkjfcaiagaagreat", sum := "04ad0a2c08be0bf66fcaadc370efe27dadfcccb58a600911cf6990219cf71fb0", func := "loop.example/g00326/laws.FnSteps", spec := "fnSteps", unfollowed := true, recurses := true, plainKeys := false, apart := false }
def FnStepsSaid : Prop := fnStepsRow.holds Tryz.pinned (OpenSpec.ofChange fnStepsSpec)

/-- ITS FALSE NEIGHBOUR: 'it returns false'. Refute it at one input. -/
def fnStepsWrong : ChangeSpec := { name := "fnSteps", fn := fun _ => fun
  | [d] => { results := [.lit (.bool false)], args := [d] }
  | _ => none }
def FnStepsWrongFalsely : Prop := fnStepsRow.holds Tryz.pinned (OpenSpec.ofChange fnStepsWrong)

/-- 'laws.FnStepsBent': WHATEVER THE INPUT: true; the input reads as it did. -/
def fnStepsBentSpec : ChangeSpec := { name := "fnStepsBent", fn := fun _ => fun
  | [d] => { results := [.lit (.bool true)], args := [d] }
  | _ => none }
def fnStepsBentRow : OpenClaim := { program := "ytkoekkjfcaiagaagreat", sum := "04ad0a2c08be0bf66fcaadc370efe27dadfcccb58a600911cf6990219cf71fb0", func := "loop.example/g00326/laws.FnStepsBent", spec := "fnStepsBent", unfollowed := true, recurses := true, plainKeys := false, apart := false }
def FnStepsBentSaid : Prop := fnStepsBentRow.holds Tryz.pinned (OpenSpec.ofChange fnStepsBentSpec)

/-- ITS FALSE NEIGHBOUR: 'it returns false'. Refute it at one input. -/
def fnStepsBentWrong : ChangeSpec := { name := "fnStepsBent", fn := fun _ => fun
  | [d] => { results := [.lit (.bool false)], args := [d] }
  | _ => none }
def FnStepsBentWrongFalsely : Prop := fnStepsBentRow.holds Tryz.pinned (OpenSpec.ofChange fnStepsBentWrong)

/-- 'laws.FnSettles': WHATEVER THE INPUT: true; the input reads as it did. -/
def fnSettlesSpec : ChangeSpec := { name := "fnSettles", fn := fun _ => fun
  | [d] => { results := [.lit (.bool true)], args := [d] }
  | _ => none }
def fnSettlesRow : OpenClaim := { program := "ytkoekkjfcaiagaagreat", sum := "04ad0a2c08be0bf66fcaadc370efe27dadfcccb58a600911cf6990219cf71fb0", func := "loop.example/g00326/laws.FnSettles", spec := "fnSettles", unfollowed := true, recurses := true, plainKeys := false, apart := false }
def FnSettlesSaid : Prop := fnSettlesRow.holds Tryz.pinned (OpenSpec.ofChange fnSettlesSpec)

/-- ITS FALSE NEIGHBOUR: 'it returns false'. Refute it at one input. -/
def fnSettlesWrong : ChangeSpec := { name := "fnSettles", fn := fun _ => fun
  | [d] => { results := [.lit (.bool false)], args := [d] }
  | _ => none }
def FnSettlesWrongFalsely : Prop := fnSettlesRow.holds Tryz.pinned (OpenSpec.ofChange fnSettlesWrong)

/- THE SECOND FORM. 'bulk': how many values and letters a reading holds, each counted each time it is reached (what is shared counts as often as it is met; a slice's spare places count too). A statement '..UptoSaid' is the law's where the arguments, and the package variables that the reading takes, are together of bulk at most 1048576: NARROWER than '..Said'. Prove '..Said' where nothing that the law and all that it calls make is longer than what came in: it says more and counts as full. Else prove '..UptoSaid'. A law counts once. -/
mutual
def uptoBulk {H : Type} : DataW H → Nat
  | .lit (.string bytes) => bytes.length + 1
  | .lit _ => 1
  | .nil => 1
  | .ptr d => uptoBulk d + 1
  | .slice elems spare => uptoBulkAll elems + uptoBulkAll spare + 1
  | .agg parts => uptoBulkAll parts + 1
  | .iface _ d => uptoBulk d + 1
  | .map entries => uptoBulkEntries entries + 1
  | .held _ => 1
def uptoBulkAll {H : Type} : List (DataW H) → Nat
  | [] => 0
  | d :: r => uptoBulk d + uptoBulkAll r
def uptoBulkEntries {H : Type} : List (Lit × DataW H) → Nat
  | [] => 0
  | x :: r => uptoBulkEntry x + uptoBulkEntries r
def uptoBulkEntry {H : Type} : Lit × DataW H → Nat
  | (.string bytes, d) => bytes.length + uptoBulk d + 1
  | (_, d) => uptoBulk d + 1
 end
def uptoSmall : (H : Type) → List (DataW H) → Bool := fun _ ds => decide (uptoBulkAll ds ≤ 1048576)
def OpenSpec.upto (s : _root_.Go.ChangeSpec) : _root_.Go.OpenSpec := { _root_.Go.OpenSpec.ofChange s with cond := some uptoSmall }

/-- 'laws.FnNets', WHERE WHAT IT READS IS OF BULK AT MOST 1048576: true; the input reads as it did. -/
def fnNetsUptoRow : OpenClaim := { program := "ytkoekkjfcaiagaagreat", sum := "04ad0a2c08be0bf66fcaadc370efe27dadfcccb58a600911cf6990219cf71fb0", func := "loop.example/g00326/laws.FnNets", spec := "fnNets", unfollowed := true, recurses := true, plainKeys := false, apart := false, narrowed := true }
def FnNetsUptoSaid : Prop := fnNetsUptoRow.holds Tryz.pinned (OpenSpec.upto fnNetsSpec)

/-- 'laws.FnSteps', WHERE WHAT IT READS IS OF BULK AT MOST 1048576: true; the input reads as it did. -/
def fnStepsUptoRow : OpenClaim := { program := "ytkoekkjfcaiagaagreat", sum := "04ad0a2c08be0bf66fcaadc370efe27dadfcccb58a600911cf6990219cf71fb0", func := "loop.example/g00326/laws.FnSteps", spec := "fnSteps", unfollowed := true, recurses := true, plainKeys := false, apart := false, narrowed := true }
def FnStepsUptoSaid : Prop := fnStepsUptoRow.holds Tryz.pinned (OpenSpec.upto fnStepsSpec)

/-- 'laws.FnStepsBent', WHERE WHAT IT READS IS OF BULK AT MOST 1048576: true; the input reads as it did. -/
def fnStepsBentUptoRow : OpenClaim := { program := "ytkoekkjfcaiagaagreat", sum := "04ad0a2c08be0bf66fcaadc370efe27dadfcccb58a600911cf6990219cf71fb0", func := "loop.example/g00326/laws.FnStepsBent", spec := "fnStepsBent", unfollowed := true, recurses := true, plainKeys := false, apart := false, narrowed := true }
def FnStepsBentUptoSaid : Prop := fnStepsBentUptoRow.holds Tryz.pinned (OpenSpec.upto fnStepsBentSpec)

/-- 'laws.FnSettles', WHERE WHAT IT READS IS OF BULK AT MOST 1048576: true; the input reads as it did. -/
def fnSettlesUptoRow : OpenClaim := { program := "ytkoekkjfcaiagaagreat", sum := "04ad0a2c08be0bf66fcaadc370efe27dadfcccb58a600911cf6990219cf71fb0", func := "loop.example/g00326/laws.FnSettles", spec := "fnSettles", unfollowed := true, recurses := true, plainKeys := false, apart := false, narrowed := true }
def FnSettlesUptoSaid : Prop := fnSettlesUptoRow.holds Tryz.pinned (OpenSpec.upto fnSettlesSpec)

end Rows
end Go.Proofs.YtkoekkjfcaiagaaGreat
