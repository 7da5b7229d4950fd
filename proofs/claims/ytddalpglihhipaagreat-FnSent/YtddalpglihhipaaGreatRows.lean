/-
  No cell of these rows narrows 'for every input' (looked for: loops, veiled, ifaces, maps, wideKeys, modest, calm, conditions, laid).
  DERIVED. THE GIVEN ROWS OF THIS SEAT. 3 by the template 'for every input the law returns true; each argument reads behind the call as it read before'; 0 by the template 'total and deterministic' (their statements: YtddalpglihhipaaGreatTotals.lean).
  GIVEN WITH THE SEED: the statements are not yours to turn. If you find one false, say at which input.
  Laid BY PROGRAM, IN A SANDBOX (cutbox-rows.mjs): the forced cells as the released guide's own fill.sh prints them over the translation 4db25d8fb3eae006… (all of the seat's roots in one cut). By AI agents, Wed Nov 11 2026. No macro, syntax, notation, axiom, sorry.
-/
import Derived.Test.YtddalpglihhipaaGreatChecked
import GoSem.Claim
import GoSem.ClaimJoined
import GoSem.ClaimMapViews
import Derived.JoinedTies
import Derived.KernelRfl
namespace Go.Proofs.YtddalpglihhipaaGreat
/- THE CELL 'sum', in the pinned program and in every row, IS THE sha256 OF THE DUMP (.gsa) THAT YtddalpglihhipaaGreatProg.lean LOADS. Nothing in Lean hashes anything: it is a label: what it is worth is what the hold of that sum in a sandbox is worth. -/
noncomputable def Tryz.pinned : Pinned := { name := "ytddalpglihhipaagreat", sum := "4db25d8fb3eae0064f689b5938f49cfbdbc93cb20faa231adeca6b9ab0c054de", checked := Tryz.checked }
namespace Rows
def none {H : Type} : Left H := { results := [], args := [] }

/-- 'laws.FnSent': WHATEVER THE INPUT: true; the input reads as it did. -/
def fnSentSpec : ChangeSpec := { name := "fnSent", fn := fun _ => fun
  | [d] => { results := [.lit (.bool true)], args := [d] }
  | _ => none }
def fnSentRow : OpenClaim := { program := "ytddalpglihhipaagreat", sum := "4db25d8fb3eae0064f689b5938f49cfbdbc93cb20faa231adeca6b9ab0c054de", func := "loop.example/g00326/laws.FnSent", spec := "fnSent", inPlace := ["slices.overlaps[loop.example/g00326/impl.fentKey]"], unfollowed := true, recurses := true, plainKeys := false, apart := false }
def FnSentSaid : Prop := fnSentRow.holds Tryz.pinned (OpenSpec.ofChange fnSentSpec)

/-- ITS FALSE NEIGHBOUR: 'it returns false'. Refute it at one input. -/
def fnSentWrong : ChangeSpec := { name := "fnSent", fn := fun _ => fun
  | [d] => { results := [.lit (.bool false)], args := [d] }
  | _ => none }
def FnSentWrongFalsely : Prop := fnSentRow.holds Tryz.pinned (OpenSpec.ofChange fnSentWrong)

/-- 'laws.FnAnswered': WHATEVER THE INPUT: true; the input reads as it did. -/
def fnAnsweredSpec : ChangeSpec := { name := "fnAnswered", fn := fun _ => fun
  | [d] => { results := [.lit (.bool true)], args := [d] }
  | _ => none }
def fnAnsweredRow : OpenClaim := { program := "ytddalpglihhipaagreat", sum := "4db25d8fb3eae0064f689b5938f49cfbdbc93cb20faa231adeca6b9ab0c054de", func := "loop.example/g00326/laws.FnAnswered", spec := "fnAnswered", inPlace := ["slices.overlaps[loop.example/g00326/impl.fentKey]"], unfollowed := true, recurses := true, plainKeys := false, apart := false }
def FnAnsweredSaid : Prop := fnAnsweredRow.holds Tryz.pinned (OpenSpec.ofChange fnAnsweredSpec)

/-- ITS FALSE NEIGHBOUR: 'it returns false'. Refute it at one input. -/
def fnAnsweredWrong : ChangeSpec := { name := "fnAnswered", fn := fun _ => fun
  | [d] => { results := [.lit (.bool false)], args := [d] }
  | _ => none }
def FnAnsweredWrongFalsely : Prop := fnAnsweredRow.holds Tryz.pinned (OpenSpec.ofChange fnAnsweredWrong)

/-- 'laws.FnExactForward': WHATEVER THE INPUT: true; the input reads as it did. -/
def fnExactForwardSpec : ChangeSpec := { name := "fnExactForward", fn := fun _ => fun
  | [d1, d2, d3] => { results := [.lit (.bool true)], args := [d1, d2, d3] }
  | _ => none }
def fnExactForwardRow : OpenClaim := { program := "ytddalpglihhipaagreat", sum := "4db25d8fb3eae0064f689b5938f49cfbdbc93cb20faa231adeca6b9ab0c054de", func := "loop.example/g00326/laws.FnExactForward", spec := "fnExactForward", inPlace := ["slices.overlaps[loop.example/g00326/impl.fentKey]"], unfollowed := true, recurses := true, plainKeys := false, apart := false }
def FnExactForwardSaid : Prop := fnExactForwardRow.holds Tryz.pinned (OpenSpec.ofChange fnExactForwardSpec)

/-- ITS FALSE NEIGHBOUR: 'it returns false'. Refute it at one input. -/
def fnExactForwardWrong : ChangeSpec := { name := "fnExactForward", fn := fun _ => fun
  | [d1, d2, d3] => { results := [.lit (.bool false)], args := [d1, d2, d3] }
  | _ => none }
def FnExactForwardWrongFalsely : Prop := fnExactForwardRow.holds Tryz.pinned (OpenSpec.ofChange fnExactForwardWrong)

/- THE SECOND FORM. 'bulk': how many values and letters a reading holds, each counted each time it is reached (what is shared counts as often as it is met; a slice's spare places count too). A statement '..UptoSaid' is the law's where the arguments, and the package variables that the reading takes, are together of bulk at most 1048576: NARROWER than '..Said'. Prove '..Said' where nothing that the law and all that it calls make is longer than what came in: it says more and counts as full. Else prove '..UptoSaid'. A law counts once. -/
mutual
def uptoBulk {H : Type} : DataW H → Nat
  | .lit (.string bytes) => bytes.length + 1
  | .lit _ => 1
  | .nil => 1
  | .ptr d => uptoBulk d + 1
  | .slice elems spare => uptoBulkAll elems + uptoBulkAll spare + 1
  | .agg parts => uptoBulkAll parts + 1
  | .iface _ d => uptoBulk d + 1
  | .map entries => uptoBulkEntries entries + 1
  | .held _ => 1
def uptoBulkAll {H : Type} : List (DataW H) → Nat
  | [] => 0
  | d :: r => uptoBulk d + uptoBulkAll r
def uptoBulkEntries {H : Type} : List (Lit × DataW H) → Nat
  | [] => 0
  | x :: r => uptoBulkEntry x + uptoBulkEntries r
def uptoBulkEntry {H : Type} : Lit × DataW H → Nat
  | (.string bytes, d) => bytes.length + uptoBulk d + 1
  | (_, d) => uptoBulk d + 1
 end
def uptoSmall : (H : Type) → List (DataW H) → Bool := fun _ ds => decide (uptoBulkAll ds ≤ 1048576)
def OpenSpec.upto (s : _root_.Go.ChangeSpec) : _root_.Go.OpenSpec := { _root_.Go.OpenSpec.ofChange s with cond := some uptoSmall }

/-- 'laws.FnSent', WHERE WHAT IT READS IS OF BULK AT MOST 1048576: true; the input reads as it did. -/
def fnSentUptoRow : OpenClaim := { program := "ytddalpglihhipaagreat", sum := "4db25d8fb3eae0064f689b5938f49cfbdbc93cb20faa231adeca6b9ab0c054de", func := "loop.example/g00326/laws.FnSent", spec := "fnSent", inPlace := ["slices.overlaps[loop.example/g00326/impl.fentKey]"], unfollowed := true, recurses := true, plainKeys := false, apart := false, narrowed := true }
def FnSentUptoSaid : Prop := fnSentUptoRow.holds Tryz.pinned (OpenSpec.upto fnSentSpec)

/-- 'laws.FnAnswered', WHERE WHAT IT READS IS OF BULK AT MOST 1048576: true; the input reads as it did. -/
def fnAnsweredUptoRow : OpenClaim := { program := "ytddalpglihhipaagreat", sum := "4db25d8fb3eae0064f689b5938f49cfbdbc93cb20faa231adeca6b9ab0c054de", func := "loop.example/g00326/laws.FnAnswered", spec := "fnAnswered", inPlace := ["slices.overlaps[loop.example/g00326/impl.fentKey]"], unfollowed := true, recurses := true, plainKeys := false, apart := false, narrowed := true }
def FnAnsweredUptoSaid : Prop := fnAnsweredUptoRow.holds Tryz.pinned (OpenSpec.upto fnAnsweredSpec)

/-- 'laws.FnExactForward', WHERE WHAT IT READS IS OF BULK AT MOST 1048576: true; the input reads as it did. -/
def fnExactForwardUptoRow : OpenClaim := { program := "ytddalpglihhipaagreat", sum := "4db25d8fb3eae0064f689b5938f49cfbdbc93cb20faa231adeca6b9ab0c054de", func := "loop.example/g00326/laws.FnExactForward", spec := "fnExactForward", inPlace := ["slices.overlaps[loop.example/g00326/impl.fentKey]"], unfollowed := true, recurses := true, plainKeys := false, apart := false, narrowed := true }
def FnExactForwardUptoSaid : Prop := fnExactForwardUptoRow.holds Tryz.pinned (OpenSpec.upto fnExactForwardSpec)

end Rows
end Go.Proofs.YtddalpglihhipaaGreat
