/-
  No cell of these rows narrows 'for every input' (looked for: loops, veiled, ifaces, maps, wideKeys, modest, calm, conditions, laid).
  DERIVED. THE GIVEN ROWS OF THIS SEAT. 6 by the template 'for every input the law returns true; each argument reads behind the call as it read before'; 0 by the template 'total and deterministic' (their statements: YtafonmfgeecopaaTotals.lean).
  GIVEN WITH THE SEED: the statements are not yours to turn. If you find one false, say at which input.
  Laid BY PROGRAM, IN A SANDBOX (cutbox-rows.mjs): the forced cells as the released guide's own fill.sh prints them over the translation e18a07beb69137e6… (all of the seat's roots in one cut). By AI agents, Wed Nov 11 2026. No macro, syntax, notation, axiom, sorry.
-/
import Derived.Test.YtafonmfgeecopaaChecked
import GoSem.Claim
import GoSem.ClaimJoined
import GoSem.ClaimMapViews
import Derived.JoinedTies
import Derived.KernelRfl
namespace Go.Proofs.Ytafonmfgeecopaa
/- THE CELL 'sum', in the pinned program and in every row, IS THE sha256 OF THE DUMP (.gsa) THAT YtafonmfgeecopaaProg.lean LOADS. Nothing in Lean hashes anything: it is a label: what it is worth is what the hold of that sum in a sandbox is worth. -/
noncomputable def Try.pinned : Pinned := { name := "ytafonmfgeecopaa", sum := "e18a07beb69137e6c1c3478e9829c7d370f232ad22fd2b9453d96ac1e2c853a5", checked := Try.checked }
namespace Rows
def none {H : Type} : Left H := { results := [], args := [] }

/-- 'laws.FnNetworks': WHATEVER THE INPUT: true; the input reads as it did. -/
def fnNetworksSpec : ChangeSpec := { name := "fnNetworks", fn := fun _ => fun
  | [d] => { results := [.lit (.bool true)], args := [d] }
  | _ => none }
def fnNetworksRow : OpenClaim := { program := "ytafonmfgeecopaa", sum := "e18a07beb69137e6c1c3478e9829c7d370f232ad22fd2b9453d96ac1e2c853a5", func := "loop.example/g00326/laws.FnNetworks", spec := "fnNetworks", unfollowed := true, recurses := true, apart := false }
def FnNetworksSaid : Prop := fnNetworksRow.holds Try.pinned (OpenSpec.ofChange fnNetworksSpec)

/-- ITS FALSE NEIGHBOUR: 'it returns false'. Refute it at one input. -/
def fnNetworksWrong : ChangeSpec := { name := "fnNetworks", fn := fun _ => fun
  | [d] => { results := [.lit (.bool false)], args := [d] }
  | _ => none }
def FnNetworksWrongFalsely : Prop := fnNetworksRow.holds Try.pinned (OpenSpec.ofChange fnNetworksWrong)

/-- 'laws.FnNetworksBent': WHATEVER THE INPUT: true; the input reads as it did. -/
def fnNetworksBentSpec : ChangeSpec := { name := "fnNetworksBent", fn := fun _ => fun
  | [d] => { results := [.lit (.bool true)], args := [d] }
  | _ => none }
def fnNetworksBentRow : OpenClaim := { program := "ytafonmfgeecopaa", sum := "e18a07beb69137e6c1c3478e9829c7d370f232ad22fd2b9453d96ac1e2c853a5", func := "loop.example/g00326/laws.FnNetworksBent", spec := "fnNetworksBent", unfollowed := true, recurses := true, apart := false }
def FnNetworksBentSaid : Prop := fnNetworksBentRow.holds Try.pinned (OpenSpec.ofChange fnNetworksBentSpec)

/-- ITS FALSE NEIGHBOUR: 'it returns false'. Refute it at one input. -/
def fnNetworksBentWrong : ChangeSpec := { name := "fnNetworksBent", fn := fun _ => fun
  | [d] => { results := [.lit (.bool false)], args := [d] }
  | _ => none }
def FnNetworksBentWrongFalsely : Prop := fnNetworksBentRow.holds Try.pinned (OpenSpec.ofChange fnNetworksBentWrong)

/-- 'laws.FnClasses': WHATEVER THE INPUT: true; the input reads as it did. -/
def fnClassesSpec : ChangeSpec := { name := "fnClasses", fn := fun _ => fun
  | [d] => { results := [.lit (.bool true)], args := [d] }
  | _ => none }
def fnClassesRow : OpenClaim := { program := "ytafonmfgeecopaa", sum := "e18a07beb69137e6c1c3478e9829c7d370f232ad22fd2b9453d96ac1e2c853a5", func := "loop.example/g00326/laws.FnClasses", spec := "fnClasses", unfollowed := true, recurses := true, apart := false }
def FnClassesSaid : Prop := fnClassesRow.holds Try.pinned (OpenSpec.ofChange fnClassesSpec)

/-- ITS FALSE NEIGHBOUR: 'it returns false'. Refute it at one input. -/
def fnClassesWrong : ChangeSpec := { name := "fnClasses", fn := fun _ => fun
  | [d] => { results := [.lit (.bool false)], args := [d] }
  | _ => none }
def FnClassesWrongFalsely : Prop := fnClassesRow.holds Try.pinned (OpenSpec.ofChange fnClassesWrong)

/-- 'laws.FnExactVtabNew': WHATEVER THE INPUT: true; the input reads as it did. -/
def fnExactVtabNewSpec : ChangeSpec := { name := "fnExactVtabNew", fn := fun _ => fun
  | [d] => { results := [.lit (.bool true)], args := [d] }
  | _ => none }
def fnExactVtabNewRow : OpenClaim := { program := "ytafonmfgeecopaa", sum := "e18a07beb69137e6c1c3478e9829c7d370f232ad22fd2b9453d96ac1e2c853a5", func := "loop.example/g00326/laws.FnExactVtabNew", spec := "fnExactVtabNew", apart := false }
def FnExactVtabNewSaid : Prop := fnExactVtabNewRow.holds Try.pinned (OpenSpec.ofChange fnExactVtabNewSpec)

/-- ITS FALSE NEIGHBOUR: 'it returns false'. Refute it at one input. -/
def fnExactVtabNewWrong : ChangeSpec := { name := "fnExactVtabNew", fn := fun _ => fun
  | [d] => { results := [.lit (.bool false)], args := [d] }
  | _ => none }
def FnExactVtabNewWrongFalsely : Prop := fnExactVtabNewRow.holds Try.pinned (OpenSpec.ofChange fnExactVtabNewWrong)

/-- 'laws.FnExactVtabOk': WHATEVER THE INPUT: true; the input reads as it did. -/
def fnExactVtabOkSpec : ChangeSpec := { name := "fnExactVtabOk", fn := fun _ => fun
  | [d1, d2] => { results := [.lit (.bool true)], args := [d1, d2] }
  | _ => none }
def fnExactVtabOkRow : OpenClaim := { program := "ytafonmfgeecopaa", sum := "e18a07beb69137e6c1c3478e9829c7d370f232ad22fd2b9453d96ac1e2c853a5", func := "loop.example/g00326/laws.FnExactVtabOk", spec := "fnExactVtabOk", unfollowed := true, recurses := true, apart := false }
def FnExactVtabOkSaid : Prop := fnExactVtabOkRow.holds Try.pinned (OpenSpec.ofChange fnExactVtabOkSpec)

/-- ITS FALSE NEIGHBOUR: 'it returns false'. Refute it at one input. -/
def fnExactVtabOkWrong : ChangeSpec := { name := "fnExactVtabOk", fn := fun _ => fun
  | [d1, d2] => { results := [.lit (.bool false)], args := [d1, d2] }
  | _ => none }
def FnExactVtabOkWrongFalsely : Prop := fnExactVtabOkRow.holds Try.pinned (OpenSpec.ofChange fnExactVtabOkWrong)

/-- 'laws.FnExactRowAt': WHATEVER THE INPUT: true; the input reads as it did. -/
def fnExactRowAtSpec : ChangeSpec := { name := "fnExactRowAt", fn := fun _ => fun
  | [d1, d2] => { results := [.lit (.bool true)], args := [d1, d2] }
  | _ => none }
def fnExactRowAtRow : OpenClaim := { program := "ytafonmfgeecopaa", sum := "e18a07beb69137e6c1c3478e9829c7d370f232ad22fd2b9453d96ac1e2c853a5", func := "loop.example/g00326/laws.FnExactRowAt", spec := "fnExactRowAt", unfollowed := true, recurses := true, apart := false }
def FnExactRowAtSaid : Prop := fnExactRowAtRow.holds Try.pinned (OpenSpec.ofChange fnExactRowAtSpec)

/-- ITS FALSE NEIGHBOUR: 'it returns false'. Refute it at one input. -/
def fnExactRowAtWrong : ChangeSpec := { name := "fnExactRowAt", fn := fun _ => fun
  | [d1, d2] => { results := [.lit (.bool false)], args := [d1, d2] }
  | _ => none }
def FnExactRowAtWrongFalsely : Prop := fnExactRowAtRow.holds Try.pinned (OpenSpec.ofChange fnExactRowAtWrong)

/- THE SECOND FORM. 'bulk': how many values and letters a reading holds, each counted each time it is reached (what is shared counts as often as it is met; a slice's spare places count too). A statement '..UptoSaid' is the law's where the arguments, and the package variables that the reading takes, are together of bulk at most 1048576: NARROWER than '..Said'. Prove '..Said' where nothing that the law and all that it calls make is longer than what came in: it says more and counts as full. Else prove '..UptoSaid'. A law counts once. -/
mutual
def uptoBulk {H : Type} : DataW H → Nat
  | .lit (.string bytes) => bytes.length + 1
  | .lit _ => 1
  | .nil => 1
  | .ptr d => uptoBulk d + 1
  | .slice elems spare => uptoBulkAll elems + uptoBulkAll spare + 1
  | .agg parts => uptoBulkAll parts + 1
  | .iface _ d => uptoBulk d + 1
  | .map entries => uptoBulkEntries entries + 1
  | .held _ => 1
def uptoBulkAll {H : Type} : List (DataW H) → Nat
  | [] => 0
  | d :: r => uptoBulk d + uptoBulkAll r
def uptoBulkEntries {H : Type} : List (Lit × DataW H) → Nat
  | [] => 0
  | x :: r => uptoBulkEntry x + uptoBulkEntries r
def uptoBulkEntry {H : Type} : Lit × DataW H → Nat
  | (.string bytes, d) => bytes.length + uptoBulk d + 1
  | (_, d) => uptoBulk d + 1
 end
def uptoSmall : (H : Type) → List (DataW H) → Bool := fun _ ds => decide (uptoBulkAll ds ≤ 1048576)
def OpenSpec.upto (s : _root_.Go.ChangeSpec) : _root_.Go.OpenSpec := { _root_.Go.OpenSpec.ofChange s with cond := some uptoSmall }

/-- 'laws.FnNetworks', WHERE WHAT IT READS IS OF BULK AT MOST 1048576: true; the input reads as it did. -/
def fnNetworksUptoRow : OpenClaim := { program := "ytafonmfgeecopaa", sum := "e18a07beb69137e6c1c3478e9829c7d370f232ad22fd2b9453d96ac1e2c853a5", func := "loop.example/g00326/laws.FnNetworks", spec := "fnNetworks", unfollowed := true, recurses := true, apart := false, narrowed := true }
def FnNetworksUptoSaid : Prop := fnNetworksUptoRow.holds Try.pinned (OpenSpec.upto fnNetworksSpec)

/-- 'laws.FnNetworksBent', WHERE WHAT IT READS IS OF BULK AT MOST 1048576: true; the input reads as it did. -/
def fnNetworksBentUptoRow : OpenClaim := { program := "ytafonmfgeecopaa", sum := "e18a07beb69137e6c1c3478e9829c7d370f232ad22fd2b9453d96ac1e2c853a5", func := "loop.example/g00326/laws.FnNetworksBent", spec := "fnNetworksBent", unfollowed := true, recurses := true, apart := false, narrowed := true }
def FnNetworksBentUptoSaid : Prop := fnNetworksBentUptoRow.holds Try.pinned (OpenSpec.upto fnNetworksBentSpec)

/-- 'laws.FnClasses', WHERE WHAT IT READS IS OF BULK AT MOST 1048576: true; the input reads as it did. -/
def fnClassesUptoRow : OpenClaim := { program := "ytafonmfgeecopaa", sum := "e18a07beb69137e6c1c3478e9829c7d370f232ad22fd2b9453d96ac1e2c853a5", func := "loop.example/g00326/laws.FnClasses", spec := "fnClasses", unfollowed := true, recurses := true, apart := false, narrowed := true }
def FnClassesUptoSaid : Prop := fnClassesUptoRow.holds Try.pinned (OpenSpec.upto fnClassesSpec)

/-- 'laws.FnExactVtabNew', WHERE WHAT IT READS IS OF BULK AT MOST 1048576: true; the input reads as it did. -/
def fnExactVtabNewUptoRow : OpenClaim := { program := "ytafonmfgeecopaa", sum := "e18a07beb69137e6c1c3478e9829c7d370f232ad22fd2b9453d96ac1e2c853a5", func := "loop.example/g00326/laws.FnExactVtabNew", spec := "fnExactVtabNew", apart := false, narrowed := true }
def FnExactVtabNewUptoSaid : Prop := fnExactVtabNewUptoRow.holds Try.pinned (OpenSpec.upto fnExactVtabNewSpec)

/-- 'laws.FnExactVtabOk', WHERE WHAT IT READS IS OF BULK AT MOST 1048576: true; the input reads as it did. -/
def fnExactVtabOkUptoRow : OpenClaim := { program := "ytafonmfgeecopaa", sum := "e18a07beb69137e6c1c3478e9829c7d370f232ad22fd2b9453d96ac1e2c853a5", func := "loop.example/g00326/laws.FnExactVtabOk", spec := "fnExactVtabOk", unfollowed := true, recurses := true, apart := false, narrowed := true }
def FnExactVtabOkUptoSaid : Prop := fnExactVtabOkUptoRow.holds Try.pinned (OpenSpec.upto fnExactVtabOkSpec)

/-- 'laws.FnExactRowAt', WHERE WHAT IT READS IS OF BULK AT MOST 1048576: true; the input reads as it did. -/
def fnExactRowAtUptoRow : OpenClaim := { program := "ytafonmfgeecopaa", sum := "e18a07beb69137e6c1c3478e9829c7d370f232ad22fd2b9453d96ac1e2c853a5", func := "loop.example/g00326/laws.FnExactRowAt", spec := "fnExactRowAt", unfollowed := true, recurses := true, apart := false, narrowed := true }
def FnExactRowAtUptoSaid : Prop := fnExactRowAtUptoRow.holds Try.pinned (OpenSpec.upto fnExactRowAtSpec)

end Rows
end Go.Proofs.Ytafonmfgeecopaa
