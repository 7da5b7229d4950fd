/-
  No cell of these rows narrows 'for every input' (looked for: loops, veiled, ifaces, maps, wideKeys, modest, calm, conditions, laid).
  DERIVED. THE GIVEN ROWS OF THIS SEAT. 6 by the template 'for every input the law returns true; each argument reads behind the call as it read before'; 0 by the template 'total and deterministic' (their statements: YtmcikcpkggonfabTotals.lean).
  GIVEN WITH THE SEED: the statements are not yours to turn. If you find one false, say at which input.
  Laid BY PROGRAM, IN A SANDBOX (cutbox-rows.mjs): the forced cells as the released guide's own fill.sh prints them over the translation fe7e54a547900b0f… (all of the seat's roots in one cut). By AI agents, Wed Nov 11 2026. No macro, syntax, notation, axiom, sorry.
-/
import Derived.Test.YtmcikcpkggonfabChecked
import GoSem.Claim
import GoSem.ClaimJoined
import GoSem.ClaimMapViews
import Derived.JoinedTies
import Derived.KernelRfl
namespace Go.Proofs.Ytmcikcpkggonfab
/- THE CELL 'sum', in the pinned program and in every row, IS THE sha256 OF THE DUMP (.gsa) THAT YtmcikcpkggonfabProg.lean LOADS. Nothing in Lean hashes anything: it is a label: what it is worth is what the hold of that sum in a sandbox is worth. -/
noncomputable def Try.pinned : Pinned := { name := "ytmcikcpkggonfab", sum := "fe7e54a547900b0f99ee3a64ac3bf967cfa2779154ed4974ffb68800ad841409", checked := Try.checked }
namespace Rows
def none {H : Type} : Left H := { results := [], args := [] }

/-- 'laws.FnExactLearn': WHATEVER THE INPUT: true; the input reads as it did. -/
def fnExactLearnSpec : ChangeSpec := { name := "fnExactLearn", fn := fun _ => fun
  | [d1, d2, d3, d4] => { results := [.lit (.bool true)], args := [d1, d2, d3, d4] }
  | _ => none }
def fnExactLearnRow : OpenClaim := { program := "ytmcikcpkggonfab", sum := "fe7e54a547900b0f99ee3a64ac3bf967cfa2779154ed4974ffb68800ad841409", func := "loop.example/g00326/laws.FnExactLearn", spec := "fnExactLearn", inPlace := ["slices.overlaps[loop.example/g00326/impl.fentKey]"], unfollowed := true, recurses := true, plainKeys := false, apart := false }
def FnExactLearnSaid : Prop := fnExactLearnRow.holds Try.pinned (OpenSpec.ofChange fnExactLearnSpec)

/-- ITS FALSE NEIGHBOUR: 'it returns false'. Refute it at one input. -/
def fnExactLearnWrong : ChangeSpec := { name := "fnExactLearn", fn := fun _ => fun
  | [d1, d2, d3, d4] => { results := [.lit (.bool false)], args := [d1, d2, d3, d4] }
  | _ => none }
def FnExactLearnWrongFalsely : Prop := fnExactLearnRow.holds Try.pinned (OpenSpec.ofChange fnExactLearnWrong)

/-- 'laws.FnExactAgeAll': WHATEVER THE INPUT: true; the input reads as it did. -/
def fnExactAgeAllSpec : ChangeSpec := { name := "fnExactAgeAll", fn := fun _ => fun
  | [d] => { results := [.lit (.bool true)], args := [d] }
  | _ => none }
def fnExactAgeAllRow : OpenClaim := { program := "ytmcikcpkggonfab", sum := "fe7e54a547900b0f99ee3a64ac3bf967cfa2779154ed4974ffb68800ad841409", func := "loop.example/g00326/laws.FnExactAgeAll", spec := "fnExactAgeAll", plainKeys := false, apart := false }
def FnExactAgeAllSaid : Prop := fnExactAgeAllRow.holds Try.pinned (OpenSpec.ofChange fnExactAgeAllSpec)

/-- ITS FALSE NEIGHBOUR: 'it returns false'. Refute it at one input. -/
def fnExactAgeAllWrong : ChangeSpec := { name := "fnExactAgeAll", fn := fun _ => fun
  | [d] => { results := [.lit (.bool false)], args := [d] }
  | _ => none }
def FnExactAgeAllWrongFalsely : Prop := fnExactAgeAllRow.holds Try.pinned (OpenSpec.ofChange fnExactAgeAllWrong)

/-- 'laws.FnExactFlushPort': WHATEVER THE INPUT: true; the input reads as it did. -/
def fnExactFlushPortSpec : ChangeSpec := { name := "fnExactFlushPort", fn := fun _ => fun
  | [d1, d2] => { results := [.lit (.bool true)], args := [d1, d2] }
  | _ => none }
def fnExactFlushPortRow : OpenClaim := { program := "ytmcikcpkggonfab", sum := "fe7e54a547900b0f99ee3a64ac3bf967cfa2779154ed4974ffb68800ad841409", func := "loop.example/g00326/laws.FnExactFlushPort", spec := "fnExactFlushPort", plainKeys := false, apart := false }
def FnExactFlushPortSaid : Prop := fnExactFlushPortRow.holds Try.pinned (OpenSpec.ofChange fnExactFlushPortSpec)

/-- ITS FALSE NEIGHBOUR: 'it returns false'. Refute it at one input. -/
def fnExactFlushPortWrong : ChangeSpec := { name := "fnExactFlushPort", fn := fun _ => fun
  | [d1, d2] => { results := [.lit (.bool false)], args := [d1, d2] }
  | _ => none }
def FnExactFlushPortWrongFalsely : Prop := fnExactFlushPortRow.holds Try.pinned (OpenSpec.ofChange fnExactFlushPortWrong)

/-- 'laws.FnExactSetStatic': WHATEVER THE INPUT: true; the input reads as it did. -/
def fnExactSetStaticSpec : ChangeSpec := { name := "fnExactSetStatic", fn := fun _ => fun
  | [d1, d2, d3, d4] => { results := [.lit (.bool true)], args := [d1, d2, d3, d4] }
  | _ => none }
def fnExactSetStaticRow : OpenClaim := { program := "ytmcikcpkggonfab", sum := "fe7e54a547900b0f99ee3a64ac3bf967cfa2779154ed4974ffb68800ad841409", func := "loop.example/g00326/laws.FnExactSetStatic", spec := "fnExactSetStatic", inPlace := ["slices.overlaps[loop.example/g00326/impl.fentKey]"], unfollowed := true, recurses := true, plainKeys := false, apart := false }
def FnExactSetStaticSaid : Prop := fnExactSetStaticRow.holds Try.pinned (OpenSpec.ofChange fnExactSetStaticSpec)

/-- ITS FALSE NEIGHBOUR: 'it returns false'. Refute it at one input. -/
def fnExactSetStaticWrong : ChangeSpec := { name := "fnExactSetStatic", fn := fun _ => fun
  | [d1, d2, d3, d4] => { results := [.lit (.bool false)], args := [d1, d2, d3, d4] }
  | _ => none }
def FnExactSetStaticWrongFalsely : Prop := fnExactSetStaticRow.holds Try.pinned (OpenSpec.ofChange fnExactSetStaticWrong)

/-- 'laws.FnExactDropStatic': WHATEVER THE INPUT: true; the input reads as it did. -/
def fnExactDropStaticSpec : ChangeSpec := { name := "fnExactDropStatic", fn := fun _ => fun
  | [d1, d2, d3] => { results := [.lit (.bool true)], args := [d1, d2, d3] }
  | _ => none }
def fnExactDropStaticRow : OpenClaim := { program := "ytmcikcpkggonfab", sum := "fe7e54a547900b0f99ee3a64ac3bf967cfa2779154ed4974ffb68800ad841409", func := "loop.example/g00326/laws.FnExactDropStatic", spec := "fnExactDropStatic", plainKeys := false, apart := false }
def FnExactDropStaticSaid : Prop := fnExactDropStaticRow.holds Try.pinned (OpenSpec.ofChange fnExactDropStaticSpec)

/-- ITS FALSE NEIGHBOUR: 'it returns false'. Refute it at one input. -/
def fnExactDropStaticWrong : ChangeSpec := { name := "fnExactDropStatic", fn := fun _ => fun
  | [d1, d2, d3] => { results := [.lit (.bool false)], args := [d1, d2, d3] }
  | _ => none }
def FnExactDropStaticWrongFalsely : Prop := fnExactDropStaticRow.holds Try.pinned (OpenSpec.ofChange fnExactDropStaticWrong)

/-- 'laws.FnExactNextEnt': WHATEVER THE INPUT: true; the input reads as it did. -/
def fnExactNextEntSpec : ChangeSpec := { name := "fnExactNextEnt", fn := fun _ => fun
  | [d1, d2, d3] => { results := [.lit (.bool true)], args := [d1, d2, d3] }
  | _ => none }
def fnExactNextEntRow : OpenClaim := { program := "ytmcikcpkggonfab", sum := "fe7e54a547900b0f99ee3a64ac3bf967cfa2779154ed4974ffb68800ad841409", func := "loop.example/g00326/laws.FnExactNextEnt", spec := "fnExactNextEnt", unfollowed := true, recurses := true, plainKeys := false, apart := false }
def FnExactNextEntSaid : Prop := fnExactNextEntRow.holds Try.pinned (OpenSpec.ofChange fnExactNextEntSpec)

/-- ITS FALSE NEIGHBOUR: 'it returns false'. Refute it at one input. -/
def fnExactNextEntWrong : ChangeSpec := { name := "fnExactNextEnt", fn := fun _ => fun
  | [d1, d2, d3] => { results := [.lit (.bool false)], args := [d1, d2, d3] }
  | _ => none }
def FnExactNextEntWrongFalsely : Prop := fnExactNextEntRow.holds Try.pinned (OpenSpec.ofChange fnExactNextEntWrong)

/- THE SECOND FORM. 'bulk': how many values and letters a reading holds, each counted each time it is reached (what is shared counts as often as it is met; a slice's spare places count too). A statement '..UptoSaid' is the law's where the arguments, and the package variables that the reading takes, are together of bulk at most 1048576: NARROWER than '..Said'. Prove '..Said' where nothing that the law and all that it calls make is longer than what came in: it says more and counts as full. Else prove '..UptoSaid'. A law counts once. -/
mutual
def uptoBulk {H : Type} : DataW H → Nat
  | .lit (.string bytes) => bytes.length + 1
  | .lit _ => 1
  | .nil => 1
  | .ptr d => uptoBulk d + 1
  | .slice elems spare => uptoBulkAll elems + uptoBulkAll spare + 1
  | .agg parts => uptoBulkAll parts + 1
  | .iface _ d => uptoBulk d + 1
  | .map entries => uptoBulkEntries entries + 1
  | .held _ => 1
def uptoBulkAll {H : Type} : List (DataW H) → Nat
  | [] => 0
  | d :: r => uptoBulk d + uptoBulkAll r
def uptoBulkEntries {H : Type} : List (Lit × DataW H) → Nat
  | [] => 0
  | x :: r => uptoBulkEntry x + uptoBulkEntries r
def uptoBulkEntry {H : Type} : Lit × DataW H → Nat
  | (.string bytes, d) => bytes.length + uptoBulk d + 1
  | (_, d) => uptoBulk d + 1
 end
def uptoSmall : (H : Type) → List (DataW H) → Bool := fun _ ds => decide (uptoBulkAll ds ≤ 1048576)
def OpenSpec.upto (s : _root_.Go.ChangeSpec) : _root_.Go.OpenSpec := { _root_.Go.OpenSpec.ofChange s with cond := some uptoSmall }

/-- 'laws.FnExactLearn', WHERE WHAT IT READS IS OF BULK AT MOST 1048576: true; the input reads as it did. -/
def fnExactLearnUptoRow : OpenClaim := { program := "ytmcikcpkggonfab", sum := "fe7e54a547900b0f99ee3a64ac3bf967cfa2779154ed4974ffb68800ad841409", func := "loop.example/g00326/laws.FnExactLearn", spec := "fnExactLearn", inPlace := ["slices.overlaps[loop.example/g00326/impl.fentKey]"], unfollowed := true, recurses := true, plainKeys := false, apart := false, narrowed := true }
def FnExactLearnUptoSaid : Prop := fnExactLearnUptoRow.holds Try.pinned (OpenSpec.upto fnExactLearnSpec)

/-- 'laws.FnExactAgeAll', WHERE WHAT IT READS IS OF BULK AT MOST 1048576: true; the input reads as it did. -/
def fnExactAgeAllUptoRow : OpenClaim := { program := "ytmcikcpkggonfab", sum := "fe7e54a547900b0f99ee3a64ac3bf967cfa2779154ed4974ffb68800ad841409", func := "loop.example/g00326/laws.FnExactAgeAll", spec := "fnExactAgeAll", plainKeys := false, apart := false, narrowed := true }
def FnExactAgeAllUptoSaid : Prop := fnExactAgeAllUptoRow.holds Try.pinned (OpenSpec.upto fnExactAgeAllSpec)

/-- 'laws.FnExactFlushPort', WHERE WHAT IT READS IS OF BULK AT MOST 1048576: true; the input reads as it did. -/
def fnExactFlushPortUptoRow : OpenClaim := { program := "ytmcikcpkggonfab", sum := "fe7e54a547900b0f99ee3a64ac3bf967cfa2779154ed4974ffb68800ad841409", func := "loop.example/g00326/laws.FnExactFlushPort", spec := "fnExactFlushPort", plainKeys := false, apart := false, narrowed := true }
def FnExactFlushPortUptoSaid : Prop := fnExactFlushPortUptoRow.holds Try.pinned (OpenSpec.upto fnExactFlushPortSpec)

/-- 'laws.FnExactSetStatic', WHERE WHAT IT READS IS OF BULK AT MOST 1048576: true; the input reads as it did. -/
def fnExactSetStaticUptoRow : OpenClaim := { program := "ytmcikcpkggonfab", sum := "fe7e54a547900b0f99ee3a64ac3bf967cfa2779154ed4974ffb68800ad841409", func := "loop.example/g00326/laws.FnExactSetStatic", spec := "fnExactSetStatic", inPlace := ["slices.overlaps[loop.example/g00326/impl.fentKey]"], unfollowed := true, recurses := true, plainKeys := false, apart := false, narrowed := true }
def FnExactSetStaticUptoSaid : Prop := fnExactSetStaticUptoRow.holds Try.pinned (OpenSpec.upto fnExactSetStaticSpec)

/-- 'laws.FnExactDropStatic', WHERE WHAT IT READS IS OF BULK AT MOST 1048576: true; the input reads as it did. -/
def fnExactDropStaticUptoRow : OpenClaim := { program := "ytmcikcpkggonfab", sum := "fe7e54a547900b0f99ee3a64ac3bf967cfa2779154ed4974ffb68800ad841409", func := "loop.example/g00326/laws.FnExactDropStatic", spec := "fnExactDropStatic", plainKeys := false, apart := false, narrowed := true }
def FnExactDropStaticUptoSaid : Prop := fnExactDropStaticUptoRow.holds Try.pinned (OpenSpec.upto fnExactDropStaticSpec)

/-- 'laws.FnExactNextEnt', WHERE WHAT IT READS IS OF BULK AT MOST 1048576: true; the input reads as it did. -/
def fnExactNextEntUptoRow : OpenClaim := { program := "ytmcikcpkggonfab", sum := "fe7e54a547900b0f99ee3a64ac3bf967cfa2779154ed4974ffb68800ad841409", func := "loop.example/g00326/laws.FnExactNextEnt", spec := "fnExactNextEnt", unfollowed := true, recurses := true, plainKeys := false, apart := false, narrowed := true }
def FnExactNextEntUptoSaid : Prop := fnExactNextEntUptoRow.holds Try.pinned (OpenSpec.upto fnExactNextEntSpec)

end Rows
end Go.Proofs.Ytmcikcpkggonfab
