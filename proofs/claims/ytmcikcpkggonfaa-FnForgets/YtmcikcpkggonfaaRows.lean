/-
  No cell of these rows narrows 'for every input' (looked for: loops, veiled, ifaces, maps, wideKeys, modest, calm, conditions, laid).
  DERIVED. THE GIVEN ROWS OF THIS SEAT. 6 by the template 'for every input the law returns true; each argument reads behind the call as it read before'; 0 by the template 'total and deterministic' (their statements: YtmcikcpkggonfaaTotals.lean).
  GIVEN WITH THE SEED: the statements are not yours to turn. If you find one false, say at which input.
  Laid BY PROGRAM, IN A SANDBOX (cutbox-rows.mjs): the forced cells as the released guide's own fill.sh prints them over the translation 93bf2b44841d424f… (all of the seat's roots in one cut). By AI agents, Wed Nov 11 2026. No macro, syntax, notation, axiom, sorry.
-/
import Derived.Test.YtmcikcpkggonfaaChecked
import GoSem.Claim
import GoSem.ClaimJoined
import GoSem.ClaimMapViews
import Derived.JoinedTies
import Derived.KernelRfl
namespace Go.Proofs.Ytmcikcpkggonfaa
/- THE CELL 'sum', in the pinned program and in every row, IS THE sha256 OF THE DUMP (.gsa) THAT YtmcikcpkggonfaaProg.lean LOADS. Nothing in Lean hashes anything: it is a label: what it is worth is what the hold of that sum in a sandbox is worth. -/
noncomputable def Try.pinned : Pinned := { name := "ytmcikcpkggonfaa", sum := "93bf2b44841d424f5517e6fed2d4d911d9dc568e467020f5c9f2025adbc6a4af", checked := Try.checked }
namespace Rows
def none {H : Type} : Left H := { results := [], args := [] }

/-- 'laws.FnLearns': WHATEVER THE INPUT: true; the input reads as it did. -/
def fnLearnsSpec : ChangeSpec := { name := "fnLearns", fn := fun _ => fun
  | [d] => { results := [.lit (.bool true)], args := [d] }
  | _ => none }
def fnLearnsRow : OpenClaim := { program := "ytmcikcpkggonfaa", sum := "93bf2b44841d424f5517e6fed2d4d911d9dc568e467020f5c9f2025adbc6a4af", func := "loop.example/g00326/laws.FnLearns", spec := "fnLearns", inPlace := ["slices.overlaps[loop.example/g00326/impl.fentKey]"], unfollowed := true, recurses := true, plainKeys := false, apart := false }
def FnLearnsSaid : Prop := fnLearnsRow.holds Try.pinned (OpenSpec.ofChange fnLearnsSpec)

/-- ITS FALSE NEIGHBOUR: 'it returns false'. Refute it at one input. -/
def fnLearnsWrong : ChangeSpec := { name := "fnLearns", fn := fun _ => fun
  | [d] => { results := [.lit (.bool false)], args := [d] }
  | _ => none }
def FnLearnsWrongFalsely : Prop := fnLearnsRow.holds Try.pinned (OpenSpec.ofChange fnLearnsWrong)

/-- 'laws.FnForgets': WHATEVER THE INPUT: true; the input reads as it did. -/
def fnForgetsSpec : ChangeSpec := { name := "fnForgets", fn := fun _ => fun
  | [d] => { results := [.lit (.bool true)], args := [d] }
  | _ => none }
def fnForgetsRow : OpenClaim := { program := "ytmcikcpkggonfaa", sum := "93bf2b44841d424f5517e6fed2d4d911d9dc568e467020f5c9f2025adbc6a4af", func := "loop.example/g00326/laws.FnForgets", spec := "fnForgets", inPlace := ["slices.overlaps[loop.example/g00326/impl.fentKey]"], unfollowed := true, recurses := true, plainKeys := false, apart := false }
def FnForgetsSaid : Prop := fnForgetsRow.holds Try.pinned (OpenSpec.ofChange fnForgetsSpec)

/-- ITS FALSE NEIGHBOUR: 'it returns false'. Refute it at one input. -/
def fnForgetsWrong : ChangeSpec := { name := "fnForgets", fn := fun _ => fun
  | [d] => { results := [.lit (.bool false)], args := [d] }
  | _ => none }
def FnForgetsWrongFalsely : Prop := fnForgetsRow.holds Try.pinned (OpenSpec.ofChange fnForgetsWrong)

/-- 'laws.FnStatics': WHATEVER THE INPUT: true; the input reads as it did. -/
def fnStaticsSpec : ChangeSpec := { name := "fnStatics", fn := fun _ => fun
  | [d] => { results := [.lit (.bool true)], args := [d] }
  | _ => none }
def fnStaticsRow : OpenClaim := { program := "ytmcikcpkggonfaa", sum := "93bf2b44841d424f5517e6fed2d4d911d9dc568e467020f5c9f2025adbc6a4af", func := "loop.example/g00326/laws.FnStatics", spec := "fnStatics", inPlace := ["slices.overlaps[loop.example/g00326/impl.fentKey]"], unfollowed := true, recurses := true, plainKeys := false, apart := false }
def FnStaticsSaid : Prop := fnStaticsRow.holds Try.pinned (OpenSpec.ofChange fnStaticsSpec)

/-- ITS FALSE NEIGHBOUR: 'it returns false'. Refute it at one input. -/
def fnStaticsWrong : ChangeSpec := { name := "fnStatics", fn := fun _ => fun
  | [d] => { results := [.lit (.bool false)], args := [d] }
  | _ => none }
def FnStaticsWrongFalsely : Prop := fnStaticsRow.holds Try.pinned (OpenSpec.ofChange fnStaticsWrong)

/-- 'laws.FnFdbsBent': WHATEVER THE INPUT: true; the input reads as it did. -/
def fnFdbsBentSpec : ChangeSpec := { name := "fnFdbsBent", fn := fun _ => fun
  | [d] => { results := [.lit (.bool true)], args := [d] }
  | _ => none }
def fnFdbsBentRow : OpenClaim := { program := "ytmcikcpkggonfaa", sum := "93bf2b44841d424f5517e6fed2d4d911d9dc568e467020f5c9f2025adbc6a4af", func := "loop.example/g00326/laws.FnFdbsBent", spec := "fnFdbsBent", inPlace := ["slices.overlaps[loop.example/g00326/impl.fentKey]"], unfollowed := true, recurses := true, plainKeys := false, apart := false }
def FnFdbsBentSaid : Prop := fnFdbsBentRow.holds Try.pinned (OpenSpec.ofChange fnFdbsBentSpec)

/-- ITS FALSE NEIGHBOUR: 'it returns false'. Refute it at one input. -/
def fnFdbsBentWrong : ChangeSpec := { name := "fnFdbsBent", fn := fun _ => fun
  | [d] => { results := [.lit (.bool false)], args := [d] }
  | _ => none }
def FnFdbsBentWrongFalsely : Prop := fnFdbsBentRow.holds Try.pinned (OpenSpec.ofChange fnFdbsBentWrong)

/-- 'laws.FnExactFdbOk': WHATEVER THE INPUT: true; the input reads as it did. -/
def fnExactFdbOkSpec : ChangeSpec := { name := "fnExactFdbOk", fn := fun _ => fun
  | [d] => { results := [.lit (.bool true)], args := [d] }
  | _ => none }
def fnExactFdbOkRow : OpenClaim := { program := "ytmcikcpkggonfaa", sum := "93bf2b44841d424f5517e6fed2d4d911d9dc568e467020f5c9f2025adbc6a4af", func := "loop.example/g00326/laws.FnExactFdbOk", spec := "fnExactFdbOk", plainKeys := false, apart := false }
def FnExactFdbOkSaid : Prop := fnExactFdbOkRow.holds Try.pinned (OpenSpec.ofChange fnExactFdbOkSpec)

/-- ITS FALSE NEIGHBOUR: 'it returns false'. Refute it at one input. -/
def fnExactFdbOkWrong : ChangeSpec := { name := "fnExactFdbOk", fn := fun _ => fun
  | [d] => { results := [.lit (.bool false)], args := [d] }
  | _ => none }
def FnExactFdbOkWrongFalsely : Prop := fnExactFdbOkRow.holds Try.pinned (OpenSpec.ofChange fnExactFdbOkWrong)

/-- 'laws.FnExactLookUp': WHATEVER THE INPUT: true; the input reads as it did. -/
def fnExactLookUpSpec : ChangeSpec := { name := "fnExactLookUp", fn := fun _ => fun
  | [d1, d2, d3] => { results := [.lit (.bool true)], args := [d1, d2, d3] }
  | _ => none }
def fnExactLookUpRow : OpenClaim := { program := "ytmcikcpkggonfaa", sum := "93bf2b44841d424f5517e6fed2d4d911d9dc568e467020f5c9f2025adbc6a4af", func := "loop.example/g00326/laws.FnExactLookUp", spec := "fnExactLookUp", plainKeys := false, apart := false }
def FnExactLookUpSaid : Prop := fnExactLookUpRow.holds Try.pinned (OpenSpec.ofChange fnExactLookUpSpec)

/-- ITS FALSE NEIGHBOUR: 'it returns false'. Refute it at one input. -/
def fnExactLookUpWrong : ChangeSpec := { name := "fnExactLookUp", fn := fun _ => fun
  | [d1, d2, d3] => { results := [.lit (.bool false)], args := [d1, d2, d3] }
  | _ => none }
def FnExactLookUpWrongFalsely : Prop := fnExactLookUpRow.holds Try.pinned (OpenSpec.ofChange fnExactLookUpWrong)

/- THE SECOND FORM. 'bulk': how many values and letters a reading holds, each counted each time it is reached (what is shared counts as often as it is met; a slice's spare places count too). A statement '..UptoSaid' is the law's where the arguments, and the package variables that the reading takes, are together of bulk at most 1048576: NARROWER than '..Said'. Prove '..Said' where nothing that the law and all that it calls make is longer than what came in: it says more and counts as full. Else prove '..UptoSaid'. A law counts once. -/
mutual
def uptoBulk {H : Type} : DataW H → Nat
  | .lit (.string bytes) => bytes.length + 1
  | .lit _ => 1
  | .nil => 1
  | .ptr d => uptoBulk d + 1
  | .slice elems spare => uptoBulkAll elems + uptoBulkAll spare + 1
  | .agg parts => uptoBulkAll parts + 1
  | .iface _ d => uptoBulk d + 1
  | .map entries => uptoBulkEntries entries + 1
  | .held _ => 1
def uptoBulkAll {H : Type} : List (DataW H) → Nat
  | [] => 0
  | d :: r => uptoBulk d + uptoBulkAll r
def uptoBulkEntries {H : Type} : List (Lit × DataW H) → Nat
  | [] => 0
  | x :: r => uptoBulkEntry x + uptoBulkEntries r
def uptoBulkEntry {H : Type} : Lit × DataW H → Nat
  | (.string bytes, d) => bytes.length + uptoBulk d + 1
  | (_, d) => uptoBulk d + 1
 end
def uptoSmall : (H : Type) → List (DataW H) → Bool := fun _ ds => decide (uptoBulkAll ds ≤ 1048576)
def OpenSpec.upto (s : _root_.Go.ChangeSpec) : _root_.Go.OpenSpec := { _root_.Go.OpenSpec.ofChange s with cond := some uptoSmall }

/-- 'laws.FnLearns', WHERE WHAT IT READS IS OF BULK AT MOST 1048576: true; the input reads as it did. -/
def fnLearnsUptoRow : OpenClaim := { program := "ytmcikcpkggonfaa", sum := "93bf2b44841d424f5517e6fed2d4d911d9dc568e467020f5c9f2025adbc6a4af", func := "loop.example/g00326/laws.FnLearns", spec := "fnLearns", inPlace := ["slices.overlaps[loop.example/g00326/impl.fentKey]"], unfollowed := true, recurses := true, plainKeys := false, apart := false, narrowed := true }
def FnLearnsUptoSaid : Prop := fnLearnsUptoRow.holds Try.pinned (OpenSpec.upto fnLearnsSpec)

/-- 'laws.FnForgets', WHERE WHAT IT READS IS OF BULK AT MOST 1048576: true; the input reads as it did. -/
def fnForgetsUptoRow : OpenClaim := { program := "ytmcikcpkggonfaa", sum := "93bf2b44841d424f5517e6fed2d4d911d9dc568e467020f5c9f2025adbc6a4af", func := "loop.example/g00326/laws.FnForgets", spec := "fnForgets", inPlace := ["slices.overlaps[loop.example/g00326/impl.fentKey]"], unfollowed := true, recurses := true, plainKeys := false, apart := false, narrowed := true }
def FnForgetsUptoSaid : Prop := fnForgetsUptoRow.holds Try.pinned (OpenSpec.upto fnForgetsSpec)

/-- 'laws.FnStatics', WHERE WHAT IT READS IS OF BULK AT MOST 1048576: true; the input reads as it did. -/
def fnStaticsUptoRow : OpenClaim := { program := "ytmcikcpkggonfaa", sum := "93bf2b44841d424f5517e6fed2d4d911d9dc568e467020f5c9f2025adbc6a4af", func := "loop.example/g00326/laws.FnStatics", spec := "fnStatics", inPlace := ["slices.overlaps[loop.example/g00326/impl.fentKey]"], unfollowed := true, recurses := true, plainKeys := false, apart := false, narrowed := true }
def FnStaticsUptoSaid : Prop := fnStaticsUptoRow.holds Try.pinned (OpenSpec.upto fnStaticsSpec)

/-- 'laws.FnFdbsBent', WHERE WHAT IT READS IS OF BULK AT MOST 1048576: true; the input reads as it did. -/
def fnFdbsBentUptoRow : OpenClaim := { program := "ytmcikcpkggonfaa", sum := "93bf2b44841d424f5517e6fed2d4d911d9dc568e467020f5c9f2025adbc6a4af", func := "loop.example/g00326/laws.FnFdbsBent", spec := "fnFdbsBent", inPlace := ["slices.overlaps[loop.example/g00326/impl.fentKey]"], unfollowed := true, recurses := true, plainKeys := false, apart := false, narrowed := true }
def FnFdbsBentUptoSaid : Prop := fnFdbsBentUptoRow.holds Try.pinned (OpenSpec.upto fnFdbsBentSpec)

/-- 'laws.FnExactFdbOk', WHERE WHAT IT READS IS OF BULK AT MOST 1048576: true; the input reads as it did. -/
def fnExactFdbOkUptoRow : OpenClaim := { program := "ytmcikcpkggonfaa", sum := "93bf2b44841d424f5517e6fed2d4d911d9dc568e467020f5c9f2025adbc6a4af", func := "loop.example/g00326/laws.FnExactFdbOk", spec := "fnExactFdbOk", plainKeys := false, apart := false, narrowed := true }
def FnExactFdbOkUptoSaid : Prop := fnExactFdbOkUptoRow.holds Try.pinned (OpenSpec.upto fnExactFdbOkSpec)

/-- 'laws.FnExactLookUp', WHERE WHAT IT READS IS OF BULK AT MOST 1048576: true; the input reads as it did. -/
def fnExactLookUpUptoRow : OpenClaim := { program := "ytmcikcpkggonfaa", sum := "93bf2b44841d424f5517e6fed2d4d911d9dc568e467020f5c9f2025adbc6a4af", func := "loop.example/g00326/laws.FnExactLookUp", spec := "fnExactLookUp", plainKeys := false, apart := false, narrowed := true }
def FnExactLookUpUptoSaid : Prop := fnExactLookUpUptoRow.holds Try.pinned (OpenSpec.upto fnExactLookUpSpec)

end Rows
end Go.Proofs.Ytmcikcpkggonfaa
