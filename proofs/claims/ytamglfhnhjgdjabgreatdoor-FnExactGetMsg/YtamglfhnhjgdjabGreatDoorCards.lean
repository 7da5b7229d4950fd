/-
  DERIVED. GIVEN WITH THE SEED: THE CARDS: each row of YtamglfhnhjgdjabGreatDoorRows.lean that lists a variable, with what it lists TIED to the program's text (the seventh form; the later family's looks); each row that meets fmt, with fmt's text TOLD by the authors' own Lean function (tested against real Go, not proved from fmt's source: count such statements apart). THE CARD IS WHAT COUNTS. Prove the row's statement (the work); the ties are given (YtamglfhnhjgdjabGreatDoorTie.lean); close each card by the builder's one call (the guide's Derived/Test/ToyasCard.lean, 'card_holds'). Laid BY PROGRAM, IN A SANDBOX (cutbox-door.mjs). By AI agents, Wed Nov 11 2026. No macro, syntax, notation, axiom, sorry.
-/
import Derived.Test.YtamglfhnhjgdjabGreatDoorRows
import GoSem.ClaimSeven
namespace Go.Proofs.YtamglfhnhjgdjabGreatDoor
namespace Rows

/-- THE TIED CARD OF 'laws.FnExactGetMsg'. -/
def fnExactGetMsgCard : Claim7 := { stood := { row := fnExactGetMsgRow, standIns := [], harness := (true, "b64af9cf11d25ce4b8e74df2b3d9a84965a516f130ef7814f4daf40f6b3dff02"), looks := true }, kinds := [], alts := [], laidByText := true, laidKinds := [.handle], laidTests := true, laidLooks := .later }
def FnExactGetMsgCardSaid : Prop := Claim7.holds Tryz.pinned (.plain (OpenSpec.ofChange fnExactGetMsgSpec)) fnExactGetMsgCard

/-- THE SECOND FORM's CARD OF 'laws.FnExactGetMsg'. -/
def fnExactGetMsgUptoCard : Claim7 := { stood := { row := fnExactGetMsgUptoRow, standIns := [], harness := (true, "b64af9cf11d25ce4b8e74df2b3d9a84965a516f130ef7814f4daf40f6b3dff02"), looks := true }, kinds := [], alts := [], laidByText := true, laidKinds := [.handle], laidTests := true, laidLooks := .later }
def FnExactGetMsgUptoCardSaid : Prop := Claim7.holds Tryz.pinned (.plain (OpenSpec.upto fnExactGetMsgSpec)) fnExactGetMsgUptoCard
end Rows
end Go.Proofs.YtamglfhnhjgdjabGreatDoor
