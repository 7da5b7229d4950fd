/-
  No cell of these rows narrows 'for every input' (looked for: loops, veiled, ifaces, maps, wideKeys, modest, calm, conditions, laid).
  DERIVED. THE GIVEN ROWS OF THIS SEAT. 6 by the template 'for every input the law returns true; each argument reads behind the call as it read before'; 0 by the template 'total and deterministic' (their statements: YtmlcjdfnoipihaaTotals.lean).
  GIVEN WITH THE SEED: the statements are not yours to turn. If you find one false, say at which input.
  Laid BY PROGRAM, IN A SANDBOX (cutbox-rows.mjs): the forced cells as the released guide's own fill.sh prints them over the translation 4b4222a67f78e184… (all of the seat's roots in one cut). By AI agents, Wed Nov 11 2026. No macro, syntax, notation, axiom, sorry.
-/
import Derived.Test.YtmlcjdfnoipihaaChecked
import GoSem.Claim
import GoSem.ClaimJoined
import GoSem.ClaimMapViews
import Derived.JoinedTies
import Derived.KernelRfl
namespace Go.Proofs.Ytmlcjdfnoipihaa
/- THE CELL 'sum', in the pinned program and in every row, IS THE sha256 OF THE DUMP (.gsa) THAT YtmlcjdfnoipihaaProg.lean LOADS. Nothing in Lean hashes anything: it is a label: what it is worth is what the hold of that sum in a sandbox is worth. -/
noncomputable def Try.pinned : Pinned := { name := "ytmlcjdfnoipihaa", sum := "4b4222a67f78e184e3b585e364083f7777f24e0e766323eb03e57ef6acea689c", checked := Try.checked }
namespace Rows
def none {H : Type} : Left H := { results := [], args := [] }

/-- 'laws.FnRoles': WHATEVER THE INPUT: true; the input reads as it did. -/
def fnRolesSpec : ChangeSpec := { name := "fnRoles", fn := fun _ => fun
  | [d] => { results := [.lit (.bool true)], args := [d] }
  | _ => none }
def fnRolesRow : OpenClaim := { program := "ytmlcjdfnoipihaa", sum := "4b4222a67f78e184e3b585e364083f7777f24e0e766323eb03e57ef6acea689c", func := "loop.example/g00326/laws.FnRoles", spec := "fnRoles", apart := false }
def FnRolesSaid : Prop := fnRolesRow.holds Try.pinned (OpenSpec.ofChange fnRolesSpec)

/-- ITS FALSE NEIGHBOUR: 'it returns false'. Refute it at one input. -/
def fnRolesWrong : ChangeSpec := { name := "fnRoles", fn := fun _ => fun
  | [d] => { results := [.lit (.bool false)], args := [d] }
  | _ => none }
def FnRolesWrongFalsely : Prop := fnRolesRow.holds Try.pinned (OpenSpec.ofChange fnRolesWrong)

/-- 'laws.FnRolesBent': WHATEVER THE INPUT: true; the input reads as it did. -/
def fnRolesBentSpec : ChangeSpec := { name := "fnRolesBent", fn := fun _ => fun
  | [d] => { results := [.lit (.bool true)], args := [d] }
  | _ => none }
def fnRolesBentRow : OpenClaim := { program := "ytmlcjdfnoipihaa", sum := "4b4222a67f78e184e3b585e364083f7777f24e0e766323eb03e57ef6acea689c", func := "loop.example/g00326/laws.FnRolesBent", spec := "fnRolesBent", apart := false }
def FnRolesBentSaid : Prop := fnRolesBentRow.holds Try.pinned (OpenSpec.ofChange fnRolesBentSpec)

/-- ITS FALSE NEIGHBOUR: 'it returns false'. Refute it at one input. -/
def fnRolesBentWrong : ChangeSpec := { name := "fnRolesBent", fn := fun _ => fun
  | [d] => { results := [.lit (.bool false)], args := [d] }
  | _ => none }
def FnRolesBentWrongFalsely : Prop := fnRolesBentRow.holds Try.pinned (OpenSpec.ofChange fnRolesBentWrong)

/-- 'laws.FnExactPtOk': WHATEVER THE INPUT: true; the input reads as it did. -/
def fnExactPtOkSpec : ChangeSpec := { name := "fnExactPtOk", fn := fun _ => fun
  | [d] => { results := [.lit (.bool true)], args := [d] }
  | _ => none }
def fnExactPtOkRow : OpenClaim := { program := "ytmlcjdfnoipihaa", sum := "4b4222a67f78e184e3b585e364083f7777f24e0e766323eb03e57ef6acea689c", func := "loop.example/g00326/laws.FnExactPtOk", spec := "fnExactPtOk", apart := false }
def FnExactPtOkSaid : Prop := fnExactPtOkRow.holds Try.pinned (OpenSpec.ofChange fnExactPtOkSpec)

/-- ITS FALSE NEIGHBOUR: 'it returns false'. Refute it at one input. -/
def fnExactPtOkWrong : ChangeSpec := { name := "fnExactPtOk", fn := fun _ => fun
  | [d] => { results := [.lit (.bool false)], args := [d] }
  | _ => none }
def FnExactPtOkWrongFalsely : Prop := fnExactPtOkRow.holds Try.pinned (OpenSpec.ofChange fnExactPtOkWrong)

/-- 'laws.FnExactBestVec': WHATEVER THE INPUT: true; the input reads as it did. -/
def fnExactBestVecSpec : ChangeSpec := { name := "fnExactBestVec", fn := fun _ => fun
  | [d1, d2] => { results := [.lit (.bool true)], args := [d1, d2] }
  | _ => none }
def fnExactBestVecRow : OpenClaim := { program := "ytmlcjdfnoipihaa", sum := "4b4222a67f78e184e3b585e364083f7777f24e0e766323eb03e57ef6acea689c", func := "loop.example/g00326/laws.FnExactBestVec", spec := "fnExactBestVec", apart := false }
def FnExactBestVecSaid : Prop := fnExactBestVecRow.holds Try.pinned (OpenSpec.ofChange fnExactBestVecSpec)

/-- ITS FALSE NEIGHBOUR: 'it returns false'. Refute it at one input. -/
def fnExactBestVecWrong : ChangeSpec := { name := "fnExactBestVec", fn := fun _ => fun
  | [d1, d2] => { results := [.lit (.bool false)], args := [d1, d2] }
  | _ => none }
def FnExactBestVecWrongFalsely : Prop := fnExactBestVecRow.holds Try.pinned (OpenSpec.ofChange fnExactBestVecWrong)

/-- 'laws.FnExactSayVec': WHATEVER THE INPUT: true; the input reads as it did. -/
def fnExactSayVecSpec : ChangeSpec := { name := "fnExactSayVec", fn := fun _ => fun
  | [d1, d2, d3] => { results := [.lit (.bool true)], args := [d1, d2, d3] }
  | _ => none }
def fnExactSayVecRow : OpenClaim := { program := "ytmlcjdfnoipihaa", sum := "4b4222a67f78e184e3b585e364083f7777f24e0e766323eb03e57ef6acea689c", func := "loop.example/g00326/laws.FnExactSayVec", spec := "fnExactSayVec", apart := false }
def FnExactSayVecSaid : Prop := fnExactSayVecRow.holds Try.pinned (OpenSpec.ofChange fnExactSayVecSpec)

/-- ITS FALSE NEIGHBOUR: 'it returns false'. Refute it at one input. -/
def fnExactSayVecWrong : ChangeSpec := { name := "fnExactSayVec", fn := fun _ => fun
  | [d1, d2, d3] => { results := [.lit (.bool false)], args := [d1, d2, d3] }
  | _ => none }
def FnExactSayVecWrongFalsely : Prop := fnExactSayVecRow.holds Try.pinned (OpenSpec.ofChange fnExactSayVecWrong)

/-- 'laws.FnExactRoleOf': WHATEVER THE INPUT: true; the input reads as it did. -/
def fnExactRoleOfSpec : ChangeSpec := { name := "fnExactRoleOf", fn := fun _ => fun
  | [d1, d2, d3] => { results := [.lit (.bool true)], args := [d1, d2, d3] }
  | _ => none }
def fnExactRoleOfRow : OpenClaim := { program := "ytmlcjdfnoipihaa", sum := "4b4222a67f78e184e3b585e364083f7777f24e0e766323eb03e57ef6acea689c", func := "loop.example/g00326/laws.FnExactRoleOf", spec := "fnExactRoleOf", apart := false }
def FnExactRoleOfSaid : Prop := fnExactRoleOfRow.holds Try.pinned (OpenSpec.ofChange fnExactRoleOfSpec)

/-- ITS FALSE NEIGHBOUR: 'it returns false'. Refute it at one input. -/
def fnExactRoleOfWrong : ChangeSpec := { name := "fnExactRoleOf", fn := fun _ => fun
  | [d1, d2, d3] => { results := [.lit (.bool false)], args := [d1, d2, d3] }
  | _ => none }
def FnExactRoleOfWrongFalsely : Prop := fnExactRoleOfRow.holds Try.pinned (OpenSpec.ofChange fnExactRoleOfWrong)

/- THE SECOND FORM. 'bulk': how many values and letters a reading holds, each counted each time it is reached (what is shared counts as often as it is met; a slice's spare places count too). A statement '..UptoSaid' is the law's where the arguments, and the package variables that the reading takes, are together of bulk at most 1048576: NARROWER than '..Said'. Prove '..Said' where nothing that the law and all that it calls make is longer than what came in: it says more and counts as full. Else prove '..UptoSaid'. A law counts once. -/
mutual
def uptoBulk {H : Type} : DataW H → Nat
  | .lit (.string bytes) => bytes.length + 1
  | .lit _ => 1
  | .nil => 1
  | .ptr d => uptoBulk d + 1
  | .slice elems spare => uptoBulkAll elems + uptoBulkAll spare + 1
  | .agg parts => uptoBulkAll parts + 1
  | .iface _ d => uptoBulk d + 1
  | .map entries => uptoBulkEntries entries + 1
  | .held _ => 1
def uptoBulkAll {H : Type} : List (DataW H) → Nat
  | [] => 0
  | d :: r => uptoBulk d + uptoBulkAll r
def uptoBulkEntries {H : Type} : List (Lit × DataW H) → Nat
  | [] => 0
  | x :: r => uptoBulkEntry x + uptoBulkEntries r
def uptoBulkEntry {H : Type} : Lit × DataW H → Nat
  | (.string bytes, d) => bytes.length + uptoBulk d + 1
  | (_, d) => uptoBulk d + 1
 end
def uptoSmall : (H : Type) → List (DataW H) → Bool := fun _ ds => decide (uptoBulkAll ds ≤ 1048576)
def OpenSpec.upto (s : _root_.Go.ChangeSpec) : _root_.Go.OpenSpec := { _root_.Go.OpenSpec.ofChange s with cond := some uptoSmall }

/-- 'laws.FnRoles', WHERE WHAT IT READS IS OF BULK AT MOST 1048576: true; the input reads as it did. -/
def fnRolesUptoRow : OpenClaim := { program := "ytmlcjdfnoipihaa", sum := "4b4222a67f78e184e3b585e364083f7777f24e0e766323eb03e57ef6acea689c", func := "loop.example/g00326/laws.FnRoles", spec := "fnRoles", apart := false, narrowed := true }
def FnRolesUptoSaid : Prop := fnRolesUptoRow.holds Try.pinned (OpenSpec.upto fnRolesSpec)

/-- 'laws.FnRolesBent', WHERE WHAT IT READS IS OF BULK AT MOST 1048576: true; the input reads as it did. -/
def fnRolesBentUptoRow : OpenClaim := { program := "ytmlcjdfnoipihaa", sum := "4b4222a67f78e184e3b585e364083f7777f24e0e766323eb03e57ef6acea689c", func := "loop.example/g00326/laws.FnRolesBent", spec := "fnRolesBent", apart := false, narrowed := true }
def FnRolesBentUptoSaid : Prop := fnRolesBentUptoRow.holds Try.pinned (OpenSpec.upto fnRolesBentSpec)

/-- 'laws.FnExactPtOk', WHERE WHAT IT READS IS OF BULK AT MOST 1048576: true; the input reads as it did. -/
def fnExactPtOkUptoRow : OpenClaim := { program := "ytmlcjdfnoipihaa", sum := "4b4222a67f78e184e3b585e364083f7777f24e0e766323eb03e57ef6acea689c", func := "loop.example/g00326/laws.FnExactPtOk", spec := "fnExactPtOk", apart := false, narrowed := true }
def FnExactPtOkUptoSaid : Prop := fnExactPtOkUptoRow.holds Try.pinned (OpenSpec.upto fnExactPtOkSpec)

/-- 'laws.FnExactBestVec', WHERE WHAT IT READS IS OF BULK AT MOST 1048576: true; the input reads as it did. -/
def fnExactBestVecUptoRow : OpenClaim := { program := "ytmlcjdfnoipihaa", sum := "4b4222a67f78e184e3b585e364083f7777f24e0e766323eb03e57ef6acea689c", func := "loop.example/g00326/laws.FnExactBestVec", spec := "fnExactBestVec", apart := false, narrowed := true }
def FnExactBestVecUptoSaid : Prop := fnExactBestVecUptoRow.holds Try.pinned (OpenSpec.upto fnExactBestVecSpec)

/-- 'laws.FnExactSayVec', WHERE WHAT IT READS IS OF BULK AT MOST 1048576: true; the input reads as it did. -/
def fnExactSayVecUptoRow : OpenClaim := { program := "ytmlcjdfnoipihaa", sum := "4b4222a67f78e184e3b585e364083f7777f24e0e766323eb03e57ef6acea689c", func := "loop.example/g00326/laws.FnExactSayVec", spec := "fnExactSayVec", apart := false, narrowed := true }
def FnExactSayVecUptoSaid : Prop := fnExactSayVecUptoRow.holds Try.pinned (OpenSpec.upto fnExactSayVecSpec)

/-- 'laws.FnExactRoleOf', WHERE WHAT IT READS IS OF BULK AT MOST 1048576: true; the input reads as it did. -/
def fnExactRoleOfUptoRow : OpenClaim := { program := "ytmlcjdfnoipihaa", sum := "4b4222a67f78e184e3b585e364083f7777f24e0e766323eb03e57ef6acea689c", func := "loop.example/g00326/laws.FnExactRoleOf", spec := "fnExactRoleOf", apart := false, narrowed := true }
def FnExactRoleOfUptoSaid : Prop := fnExactRoleOfUptoRow.holds Try.pinned (OpenSpec.upto fnExactRoleOfSpec)

end Rows
end Go.Proofs.Ytmlcjdfnoipihaa
