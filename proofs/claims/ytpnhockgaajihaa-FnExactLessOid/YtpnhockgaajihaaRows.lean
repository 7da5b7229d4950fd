/-
  No cell of these rows narrows 'for every input' (looked for: loops, veiled, ifaces, maps, wideKeys, modest, calm, conditions, laid).
  DERIVED. THE GIVEN ROWS OF THIS SEAT. 5 by the template 'for every input the law returns true; each argument reads behind the call as it read before'; 0 by the template 'total and deterministic' (their statements: YtpnhockgaajihaaTotals.lean).
  GIVEN WITH THE SEED: the statements are not yours to turn. If you find one false, say at which input.
  Laid BY PROGRAM, IN A SANDBOX (cutbox-rows.mjs): the forced cells as the released guide's own fill.sh prints them over the translation 6dea59ae8c8ee194… (all of the seat's roots in one cut). By AI agents, Wed Nov 11 2026. No macro, syntax, notation, axiom, sorry.
-/
import Derived.Test.YtpnhockgaajihaaChecked
import GoSem.Claim
import GoSem.ClaimJoined
import GoSem.ClaimMapViews
import Derived.JoinedTies
import Derived.KernelRfl
namespace Go.Proofs.Ytpnhockgaajihaa
/- THE CELL 'sum', in the pinned program and in every row, IS THE sha256 OF THE DUMP (.gsa) THAT YtpnhockgaajihaaProg.lean LOADS. Nothing in Lean hashes anything: it is a label: what it is worth is what the hold of that sum in a sandbox is worth. -/
noncomputable def Try.pinned : Pinned := { name := "ytpnhockgaajihaa", sum := "6dea59ae8c8ee194004ef82998ddf922d5f2183033bd0533d6e829ac317e0706", checked := Try.checked }
namespace Rows
def none {H : Type} : Left H := { results := [], args := [] }

/-- 'laws.FnOidOrder': WHATEVER THE INPUT: true; the input reads as it did. -/
def fnOidOrderSpec : ChangeSpec := { name := "fnOidOrder", fn := fun _ => fun
  | [d] => { results := [.lit (.bool true)], args := [d] }
  | _ => none }
def fnOidOrderRow : OpenClaim := { program := "ytpnhockgaajihaa", sum := "6dea59ae8c8ee194004ef82998ddf922d5f2183033bd0533d6e829ac317e0706", func := "loop.example/g00326/laws.FnOidOrder", spec := "fnOidOrder", apart := false }
def FnOidOrderSaid : Prop := fnOidOrderRow.holds Try.pinned (OpenSpec.ofChange fnOidOrderSpec)

/-- ITS FALSE NEIGHBOUR: 'it returns false'. Refute it at one input. -/
def fnOidOrderWrong : ChangeSpec := { name := "fnOidOrder", fn := fun _ => fun
  | [d] => { results := [.lit (.bool false)], args := [d] }
  | _ => none }
def FnOidOrderWrongFalsely : Prop := fnOidOrderRow.holds Try.pinned (OpenSpec.ofChange fnOidOrderWrong)

/-- 'laws.FnExactOidOk': WHATEVER THE INPUT: true; the input reads as it did. -/
def fnExactOidOkSpec : ChangeSpec := { name := "fnExactOidOk", fn := fun _ => fun
  | [d] => { results := [.lit (.bool true)], args := [d] }
  | _ => none }
def fnExactOidOkRow : OpenClaim := { program := "ytpnhockgaajihaa", sum := "6dea59ae8c8ee194004ef82998ddf922d5f2183033bd0533d6e829ac317e0706", func := "loop.example/g00326/laws.FnExactOidOk", spec := "fnExactOidOk", apart := false }
def FnExactOidOkSaid : Prop := fnExactOidOkRow.holds Try.pinned (OpenSpec.ofChange fnExactOidOkSpec)

/-- ITS FALSE NEIGHBOUR: 'it returns false'. Refute it at one input. -/
def fnExactOidOkWrong : ChangeSpec := { name := "fnExactOidOk", fn := fun _ => fun
  | [d] => { results := [.lit (.bool false)], args := [d] }
  | _ => none }
def FnExactOidOkWrongFalsely : Prop := fnExactOidOkRow.holds Try.pinned (OpenSpec.ofChange fnExactOidOkWrong)

/-- 'laws.FnExactLessOid': WHATEVER THE INPUT: true; the input reads as it did. -/
def fnExactLessOidSpec : ChangeSpec := { name := "fnExactLessOid", fn := fun _ => fun
  | [d1, d2] => { results := [.lit (.bool true)], args := [d1, d2] }
  | _ => none }
def fnExactLessOidRow : OpenClaim := { program := "ytpnhockgaajihaa", sum := "6dea59ae8c8ee194004ef82998ddf922d5f2183033bd0533d6e829ac317e0706", func := "loop.example/g00326/laws.FnExactLessOid", spec := "fnExactLessOid", apart := false }
def FnExactLessOidSaid : Prop := fnExactLessOidRow.holds Try.pinned (OpenSpec.ofChange fnExactLessOidSpec)

/-- ITS FALSE NEIGHBOUR: 'it returns false'. Refute it at one input. -/
def fnExactLessOidWrong : ChangeSpec := { name := "fnExactLessOid", fn := fun _ => fun
  | [d1, d2] => { results := [.lit (.bool false)], args := [d1, d2] }
  | _ => none }
def FnExactLessOidWrongFalsely : Prop := fnExactLessOidRow.holds Try.pinned (OpenSpec.ofChange fnExactLessOidWrong)

/-- 'laws.FnExactBelow': WHATEVER THE INPUT: true; the input reads as it did. -/
def fnExactBelowSpec : ChangeSpec := { name := "fnExactBelow", fn := fun _ => fun
  | [d1, d2] => { results := [.lit (.bool true)], args := [d1, d2] }
  | _ => none }
def fnExactBelowRow : OpenClaim := { program := "ytpnhockgaajihaa", sum := "6dea59ae8c8ee194004ef82998ddf922d5f2183033bd0533d6e829ac317e0706", func := "loop.example/g00326/laws.FnExactBelow", spec := "fnExactBelow", apart := false }
def FnExactBelowSaid : Prop := fnExactBelowRow.holds Try.pinned (OpenSpec.ofChange fnExactBelowSpec)

/-- ITS FALSE NEIGHBOUR: 'it returns false'. Refute it at one input. -/
def fnExactBelowWrong : ChangeSpec := { name := "fnExactBelow", fn := fun _ => fun
  | [d1, d2] => { results := [.lit (.bool false)], args := [d1, d2] }
  | _ => none }
def FnExactBelowWrongFalsely : Prop := fnExactBelowRow.holds Try.pinned (OpenSpec.ofChange fnExactBelowWrong)

/-- 'laws.FnExactPutOid': WHATEVER THE INPUT: true; the input reads as it did. -/
def fnExactPutOidSpec : ChangeSpec := { name := "fnExactPutOid", fn := fun _ => fun
  | [d] => { results := [.lit (.bool true)], args := [d] }
  | _ => none }
def fnExactPutOidRow : OpenClaim := { program := "ytpnhockgaajihaa", sum := "6dea59ae8c8ee194004ef82998ddf922d5f2183033bd0533d6e829ac317e0706", func := "loop.example/g00326/laws.FnExactPutOid", spec := "fnExactPutOid", apart := false }
def FnExactPutOidSaid : Prop := fnExactPutOidRow.holds Try.pinned (OpenSpec.ofChange fnExactPutOidSpec)

/-- ITS FALSE NEIGHBOUR: 'it returns false'. Refute it at one input. -/
def fnExactPutOidWrong : ChangeSpec := { name := "fnExactPutOid", fn := fun _ => fun
  | [d] => { results := [.lit (.bool false)], args := [d] }
  | _ => none }
def FnExactPutOidWrongFalsely : Prop := fnExactPutOidRow.holds Try.pinned (OpenSpec.ofChange fnExactPutOidWrong)

/- THE SECOND FORM. 'bulk': how many values and letters a reading holds, each counted each time it is reached (what is shared counts as often as it is met; a slice's spare places count too). A statement '..UptoSaid' is the law's where the arguments, and the package variables that the reading takes, are together of bulk at most 1048576: NARROWER than '..Said'. Prove '..Said' where nothing that the law and all that it calls make is longer than what came in: it says more and counts as full. Else prove '..UptoSaid'. A law counts once. -/
mutual
def uptoBulk {H : Type} : DataW H → Nat
  | .lit (.string bytes) => bytes.length + 1
  | .lit _ => 1
  | .nil => 1
  | .ptr d => uptoBulk d + 1
  | .slice elems spare => uptoBulkAll elems + uptoBulkAll spare + 1
  | .agg parts => uptoBulkAll parts + 1
  | .iface _ d => uptoBulk d + 1
  | .map entries => uptoBulkEntries entries + 1
  | .held _ => 1
def uptoBulkAll {H : Type} : List (DataW H) → Nat
  | [] => 0
  | d :: r => uptoBulk d + uptoBulkAll r
def uptoBulkEntries {H : Type} : List (Lit × DataW H) → Nat
  | [] => 0
  | x :: r => uptoBulkEntry x + uptoBulkEntries r
def uptoBulkEntry {H : Type} : Lit × DataW H → Nat
  | (.string bytes, d) => bytes.length + uptoBulk d + 1
  | (_, d) => uptoBulk d + 1
 end
def uptoSmall : (H : Type) → List (DataW H) → Bool := fun _ ds => decide (uptoBulkAll ds ≤ 1048576)
def OpenSpec.upto (s : _root_.Go.ChangeSpec) : _root_.Go.OpenSpec := { _root_.Go.OpenSpec.ofChange s with cond := some uptoSmall }

/-- 'laws.FnOidOrder', WHERE WHAT IT READS IS OF BULK AT MOST 1048576: true; the input reads as it did. -/
def fnOidOrderUptoRow : OpenClaim := { program := "ytpnhockgaajihaa", sum := "6dea59ae8c8ee194004ef82998ddf922d5f2183033bd0533d6e829ac317e0706", func := "loop.example/g00326/laws.FnOidOrder", spec := "fnOidOrder", apart := false, narrowed := true }
def FnOidOrderUptoSaid : Prop := fnOidOrderUptoRow.holds Try.pinned (OpenSpec.upto fnOidOrderSpec)

/-- 'laws.FnExactOidOk', WHERE WHAT IT READS IS OF BULK AT MOST 1048576: true; the input reads as it did. -/
def fnExactOidOkUptoRow : OpenClaim := { program := "ytpnhockgaajihaa", sum := "6dea59ae8c8ee194004ef82998ddf922d5f2183033bd0533d6e829ac317e0706", func := "loop.example/g00326/laws.FnExactOidOk", spec := "fnExactOidOk", apart := false, narrowed := true }
def FnExactOidOkUptoSaid : Prop := fnExactOidOkUptoRow.holds Try.pinned (OpenSpec.upto fnExactOidOkSpec)

/-- 'laws.FnExactLessOid', WHERE WHAT IT READS IS OF BULK AT MOST 1048576: true; the input reads as it did. -/
def fnExactLessOidUptoRow : OpenClaim := { program := "ytpnhockgaajihaa", sum := "6dea59ae8c8ee194004ef82998ddf922d5f2183033bd0533d6e829ac317e0706", func := "loop.example/g00326/laws.FnExactLessOid", spec := "fnExactLessOid", apart := false, narrowed := true }
def FnExactLessOidUptoSaid : Prop := fnExactLessOidUptoRow.holds Try.pinned (OpenSpec.upto fnExactLessOidSpec)

/-- 'laws.FnExactBelow', WHERE WHAT IT READS IS OF BULK AT MOST 1048576: true; the input reads as it did. -/
def fnExactBelowUptoRow : OpenClaim := { program := "ytpnhockgaajihaa", sum := "6dea59ae8c8ee194004ef82998ddf922d5f2183033bd0533d6e829ac317e0706", func := "loop.example/g00326/laws.FnExactBelow", spec := "fnExactBelow", apart := false, narrowed := true }
def FnExactBelowUptoSaid : Prop := fnExactBelowUptoRow.holds Try.pinned (OpenSpec.upto fnExactBelowSpec)

/-- 'laws.FnExactPutOid', WHERE WHAT IT READS IS OF BULK AT MOST 1048576: true; the input reads as it did. -/
def fnExactPutOidUptoRow : OpenClaim := { program := "ytpnhockgaajihaa", sum := "6dea59ae8c8ee194004ef82998ddf922d5f2183033bd0533d6e829ac317e0706", func := "loop.example/g00326/laws.FnExactPutOid", spec := "fnExactPutOid", apart := false, narrowed := true }
def FnExactPutOidUptoSaid : Prop := fnExactPutOidUptoRow.holds Try.pinned (OpenSpec.upto fnExactPutOidSpec)

end Rows
end Go.Proofs.Ytpnhockgaajihaa
