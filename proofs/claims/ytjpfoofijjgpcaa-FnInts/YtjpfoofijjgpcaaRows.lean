/-
  No cell of these rows narrows 'for every input' (looked for: loops, veiled, ifaces, maps, wideKeys, modest, calm, conditions, laid).
  DERIVED. THE GIVEN ROWS OF THIS SEAT. 6 by the template 'for every input the law returns true; each argument reads behind the call as it read before'; 0 by the template 'total and deterministic' (their statements: YtjpfoofijjgpcaaTotals.lean).
  GIVEN WITH THE SEED: the statements are not yours to turn. If you find one false, say at which input.
  Laid BY PROGRAM, IN A SANDBOX (cutbox-rows.mjs): the forced cells as the released guide's own fill.sh prints them over the translation 30dfb21c9ffd3b43… (all of the seat's roots in one cut). By AI agents, Wed Nov 11 2026. No macro, syntax, notation, axiom, sorry.
-/
import Derived.Test.YtjpfoofijjgpcaaChecked
import GoSem.Claim
import GoSem.ClaimJoined
import GoSem.ClaimMapViews
import Derived.JoinedTies
import Derived.KernelRfl
namespace Go.Proofs.Ytjpfoofijjgpcaa
/- THE CELL 'sum', in the pinned program and in every row, IS THE sha256 OF THE DUMP (.gsa) THAT YtjpfoofijjgpcaaProg.lean LOADS. Nothing in Lean hashes anything: it is a label: what it is worth is what the hold of that sum in a sandbox is worth. -/
noncomputable def Try.pinned : Pinned := { name := "ytjpfoofijjgpcaa", sum := "30dfb21c9ffd3b43b9b779dbc536cbeee2e0a042baac3052c17953a7b648034d", checked := Try.checked }
namespace Rows
def none {H : Type} : Left H := { results := [], args := [] }

/-- 'laws.FnTlvs': WHATEVER THE INPUT: true; the input reads as it did. -/
def fnTlvsSpec : ChangeSpec := { name := "fnTlvs", fn := fun _ => fun
  | [d] => { results := [.lit (.bool true)], args := [d] }
  | _ => none }
def fnTlvsRow : OpenClaim := { program := "ytjpfoofijjgpcaa", sum := "30dfb21c9ffd3b43b9b779dbc536cbeee2e0a042baac3052c17953a7b648034d", func := "loop.example/g00326/laws.FnTlvs", spec := "fnTlvs", apart := false }
def FnTlvsSaid : Prop := fnTlvsRow.holds Try.pinned (OpenSpec.ofChange fnTlvsSpec)

/-- ITS FALSE NEIGHBOUR: 'it returns false'. Refute it at one input. -/
def fnTlvsWrong : ChangeSpec := { name := "fnTlvs", fn := fun _ => fun
  | [d] => { results := [.lit (.bool false)], args := [d] }
  | _ => none }
def FnTlvsWrongFalsely : Prop := fnTlvsRow.holds Try.pinned (OpenSpec.ofChange fnTlvsWrong)

/-- 'laws.FnTlvsRead': WHATEVER THE INPUT: true; the input reads as it did. -/
def fnTlvsReadSpec : ChangeSpec := { name := "fnTlvsRead", fn := fun _ => fun
  | [d] => { results := [.lit (.bool true)], args := [d] }
  | _ => none }
def fnTlvsReadRow : OpenClaim := { program := "ytjpfoofijjgpcaa", sum := "30dfb21c9ffd3b43b9b779dbc536cbeee2e0a042baac3052c17953a7b648034d", func := "loop.example/g00326/laws.FnTlvsRead", spec := "fnTlvsRead", apart := false }
def FnTlvsReadSaid : Prop := fnTlvsReadRow.holds Try.pinned (OpenSpec.ofChange fnTlvsReadSpec)

/-- ITS FALSE NEIGHBOUR: 'it returns false'. Refute it at one input. -/
def fnTlvsReadWrong : ChangeSpec := { name := "fnTlvsRead", fn := fun _ => fun
  | [d] => { results := [.lit (.bool false)], args := [d] }
  | _ => none }
def FnTlvsReadWrongFalsely : Prop := fnTlvsReadRow.holds Try.pinned (OpenSpec.ofChange fnTlvsReadWrong)

/-- 'laws.FnInts': WHATEVER THE INPUT: true; the input reads as it did. -/
def fnIntsSpec : ChangeSpec := { name := "fnInts", fn := fun _ => fun
  | [d] => { results := [.lit (.bool true)], args := [d] }
  | _ => none }
def fnIntsRow : OpenClaim := { program := "ytjpfoofijjgpcaa", sum := "30dfb21c9ffd3b43b9b779dbc536cbeee2e0a042baac3052c17953a7b648034d", func := "loop.example/g00326/laws.FnInts", spec := "fnInts", apart := false }
def FnIntsSaid : Prop := fnIntsRow.holds Try.pinned (OpenSpec.ofChange fnIntsSpec)

/-- ITS FALSE NEIGHBOUR: 'it returns false'. Refute it at one input. -/
def fnIntsWrong : ChangeSpec := { name := "fnInts", fn := fun _ => fun
  | [d] => { results := [.lit (.bool false)], args := [d] }
  | _ => none }
def FnIntsWrongFalsely : Prop := fnIntsRow.holds Try.pinned (OpenSpec.ofChange fnIntsWrong)

/-- 'laws.FnExactPutTlv': WHATEVER THE INPUT: true; the input reads as it did. -/
def fnExactPutTlvSpec : ChangeSpec := { name := "fnExactPutTlv", fn := fun _ => fun
  | [d1, d2, d3] => { results := [.lit (.bool true)], args := [d1, d2, d3] }
  | _ => none }
def fnExactPutTlvRow : OpenClaim := { program := "ytjpfoofijjgpcaa", sum := "30dfb21c9ffd3b43b9b779dbc536cbeee2e0a042baac3052c17953a7b648034d", func := "loop.example/g00326/laws.FnExactPutTlv", spec := "fnExactPutTlv", apart := false }
def FnExactPutTlvSaid : Prop := fnExactPutTlvRow.holds Try.pinned (OpenSpec.ofChange fnExactPutTlvSpec)

/-- ITS FALSE NEIGHBOUR: 'it returns false'. Refute it at one input. -/
def fnExactPutTlvWrong : ChangeSpec := { name := "fnExactPutTlv", fn := fun _ => fun
  | [d1, d2, d3] => { results := [.lit (.bool false)], args := [d1, d2, d3] }
  | _ => none }
def FnExactPutTlvWrongFalsely : Prop := fnExactPutTlvRow.holds Try.pinned (OpenSpec.ofChange fnExactPutTlvWrong)

/-- 'laws.FnExactGetTlv': WHATEVER THE INPUT: true; the input reads as it did. -/
def fnExactGetTlvSpec : ChangeSpec := { name := "fnExactGetTlv", fn := fun _ => fun
  | [d1, d2] => { results := [.lit (.bool true)], args := [d1, d2] }
  | _ => none }
def fnExactGetTlvRow : OpenClaim := { program := "ytjpfoofijjgpcaa", sum := "30dfb21c9ffd3b43b9b779dbc536cbeee2e0a042baac3052c17953a7b648034d", func := "loop.example/g00326/laws.FnExactGetTlv", spec := "fnExactGetTlv", apart := false }
def FnExactGetTlvSaid : Prop := fnExactGetTlvRow.holds Try.pinned (OpenSpec.ofChange fnExactGetTlvSpec)

/-- ITS FALSE NEIGHBOUR: 'it returns false'. Refute it at one input. -/
def fnExactGetTlvWrong : ChangeSpec := { name := "fnExactGetTlv", fn := fun _ => fun
  | [d1, d2] => { results := [.lit (.bool false)], args := [d1, d2] }
  | _ => none }
def FnExactGetTlvWrongFalsely : Prop := fnExactGetTlvRow.holds Try.pinned (OpenSpec.ofChange fnExactGetTlvWrong)

/-- 'laws.FnExactPutInt': WHATEVER THE INPUT: true; the input reads as it did. -/
def fnExactPutIntSpec : ChangeSpec := { name := "fnExactPutInt", fn := fun _ => fun
  | [d] => { results := [.lit (.bool true)], args := [d] }
  | _ => none }
def fnExactPutIntRow : OpenClaim := { program := "ytjpfoofijjgpcaa", sum := "30dfb21c9ffd3b43b9b779dbc536cbeee2e0a042baac3052c17953a7b648034d", func := "loop.example/g00326/laws.FnExactPutInt", spec := "fnExactPutInt", apart := false }
def FnExactPutIntSaid : Prop := fnExactPutIntRow.holds Try.pinned (OpenSpec.ofChange fnExactPutIntSpec)

/-- ITS FALSE NEIGHBOUR: 'it returns false'. Refute it at one input. -/
def fnExactPutIntWrong : ChangeSpec := { name := "fnExactPutInt", fn := fun _ => fun
  | [d] => { results := [.lit (.bool false)], args := [d] }
  | _ => none }
def FnExactPutIntWrongFalsely : Prop := fnExactPutIntRow.holds Try.pinned (OpenSpec.ofChange fnExactPutIntWrong)

/- THE SECOND FORM. 'bulk': how many values and letters a reading holds, each counted each time it is reached (what is shared counts as often as it is met; a slice's spare places count too). A statement '..UptoSaid' is the law's where the arguments, and the package variables that the reading takes, are together of bulk at most 1048576: NARROWER than '..Said'. Prove '..Said' where nothing that the law and all that it calls make is longer than what came in: it says more and counts as full. Else prove '..UptoSaid'. A law counts once. -/
mutual
def uptoBulk {H : Type} : DataW H → Nat
  | .lit (.string bytes) => bytes.length + 1
  | .lit _ => 1
  | .nil => 1
  | .ptr d => uptoBulk d + 1
  | .slice elems spare => uptoBulkAll elems + uptoBulkAll spare + 1
  | .agg parts => uptoBulkAll parts + 1
  | .iface _ d => uptoBulk d + 1
  | .map entries => uptoBulkEntries entries + 1
  | .held _ => 1
def uptoBulkAll {H : Type} : List (DataW H) → Nat
  | [] => 0
  | d :: r => uptoBulk d + uptoBulkAll r
def uptoBulkEntries {H : Type} : List (Lit × DataW H) → Nat
  | [] => 0
  | x :: r => uptoBulkEntry x + uptoBulkEntries r
def uptoBulkEntry {H : Type} : Lit × DataW H → Nat
  | (.string bytes, d) => bytes.length + uptoBulk d + 1
  | (_, d) => uptoBulk d + 1
 end
def uptoSmall : (H : Type) → List (DataW H) → Bool := fun _ ds => decide (uptoBulkAll ds ≤ 1048576)
def OpenSpec.upto (s : _root_.Go.ChangeSpec) : _root_.Go.OpenSpec := { _root_.Go.OpenSpec.ofChange s with cond := some uptoSmall }

/-- 'laws.FnTlvs', WHERE WHAT IT READS IS OF BULK AT MOST 1048576: true; the input reads as it did. -/
def fnTlvsUptoRow : OpenClaim := { program := "ytjpfoofijjgpcaa", sum := "30dfb21c9ffd3b43b9b779dbc536cbeee2e0a042baac3052c17953a7b648034d", func := "loop.example/g00326/laws.FnTlvs", spec := "fnTlvs", apart := false, narrowed := true }
def FnTlvsUptoSaid : Prop := fnTlvsUptoRow.holds Try.pinned (OpenSpec.upto fnTlvsSpec)

/-- 'laws.FnTlvsRead', WHERE WHAT IT READS IS OF BULK AT MOST 1048576: true; the input reads as it did. -/
def fnTlvsReadUptoRow : OpenClaim := { program := "ytjpfoofijjgpcaa", sum := "30dfb21c9ffd3b43b9b779dbc536cbeee2e0a042baac3052c17953a7b648034d", func := "loop.example/g00326/laws.FnTlvsRead", spec := "fnTlvsRead", apart := false, narrowed := true }
def FnTlvsReadUptoSaid : Prop := fnTlvsReadUptoRow.holds Try.pinned (OpenSpec.upto fnTlvsReadSpec)

/-- 'laws.FnInts', WHERE WHAT IT READS IS OF BULK AT MOST 1048576: true; the input reads as it did. -/
def fnIntsUptoRow : OpenClaim := { program := "ytjpfoofijjgpcaa", sum := "30dfb21c9ffd3b43b9b779dbc536cbeee2e0a042baac3052c17953a7b648034d", func := "loop.example/g00326/laws.FnInts", spec := "fnInts", apart := false, narrowed := true }
def FnIntsUptoSaid : Prop := fnIntsUptoRow.holds Try.pinned (OpenSpec.upto fnIntsSpec)

/-- 'laws.FnExactPutTlv', WHERE WHAT IT READS IS OF BULK AT MOST 1048576: true; the input reads as it did. -/
def fnExactPutTlvUptoRow : OpenClaim := { program := "ytjpfoofijjgpcaa", sum := "30dfb21c9ffd3b43b9b779dbc536cbeee2e0a042baac3052c17953a7b648034d", func := "loop.example/g00326/laws.FnExactPutTlv", spec := "fnExactPutTlv", apart := false, narrowed := true }
def FnExactPutTlvUptoSaid : Prop := fnExactPutTlvUptoRow.holds Try.pinned (OpenSpec.upto fnExactPutTlvSpec)

/-- 'laws.FnExactGetTlv', WHERE WHAT IT READS IS OF BULK AT MOST 1048576: true; the input reads as it did. -/
def fnExactGetTlvUptoRow : OpenClaim := { program := "ytjpfoofijjgpcaa", sum := "30dfb21c9ffd3b43b9b779dbc536cbeee2e0a042baac3052c17953a7b648034d", func := "loop.example/g00326/laws.FnExactGetTlv", spec := "fnExactGetTlv", apart := false, narrowed := true }
def FnExactGetTlvUptoSaid : Prop := fnExactGetTlvUptoRow.holds Try.pinned (OpenSpec.upto fnExactGetTlvSpec)

/-- 'laws.FnExactPutInt', WHERE WHAT IT READS IS OF BULK AT MOST 1048576: true; the input reads as it did. -/
def fnExactPutIntUptoRow : OpenClaim := { program := "ytjpfoofijjgpcaa", sum := "30dfb21c9ffd3b43b9b779dbc536cbeee2e0a042baac3052c17953a7b648034d", func := "loop.example/g00326/laws.FnExactPutInt", spec := "fnExactPutInt", apart := false, narrowed := true }
def FnExactPutIntUptoSaid : Prop := fnExactPutIntUptoRow.holds Try.pinned (OpenSpec.upto fnExactPutIntSpec)

end Rows
end Go.Proofs.Ytjpfoofijjgpcaa
