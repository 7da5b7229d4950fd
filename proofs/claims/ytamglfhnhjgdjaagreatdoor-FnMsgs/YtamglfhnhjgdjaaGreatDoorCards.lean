/-
  DERIVED. GIVEN WITH THE SEED: THE CARDS: each row of YtamglfhnhjgdjaaGreatDoorRows.lean that lists a variable, with what it lists TIED to the program's text (the seventh form; the later family's looks); each row that meets fmt, with fmt's text TOLD by the authors' own Lean function (tested against real Go, not proved from fmt's source: count such statements apart). THE CARD IS WHAT COUNTS. Prove the row's statement (the work); the ties are given (YtamglfhnhjgdjaaGreatDoorTie.lean); close each card by the builder's one call (the guide's Derived/Test/ToyasCard.lean, 'card_holds'). Laid BY PROGRAM, IN A SANDBOX (cutbox-door.mjs). By AI agents, Wed Nov 11 2026. No macro, syntax, notation, axiom, sorry.
-/
import Derived.Test.YtamglfhnhjgdjaaGreatDoorRows
import GoSem.ClaimSeven
namespace Go.Proofs.YtamglfhnhjgdjaaGreatDoor
namespace Rows

/-- THE TIED CARD OF 'laws.FnMsgs'. -/
def fnMsgsCard : Claim7 := { stood := { row := fnMsgsRow, standIns := [], harness := (true, "4eeabbbd9fcaea078cb7d35d320a8292975dd2bf1edf2a6380450f9fb26a514c"), looks := true }, kinds := [], alts := [], laidByText := true, laidKinds := [.handle], laidTests := true, laidLooks := .later }
def FnMsgsCardSaid : Prop := Claim7.holds Tryz.pinned (.plain (OpenSpec.ofChange fnMsgsSpec)) fnMsgsCard

/-- THE TIED CARD OF 'laws.FnMsgsRead'. -/
def fnMsgsReadCard : Claim7 := { stood := { row := fnMsgsReadRow, standIns := [], harness := (true, "4eeabbbd9fcaea078cb7d35d320a8292975dd2bf1edf2a6380450f9fb26a514c"), looks := true }, kinds := [], alts := [], laidByText := true, laidKinds := [.handle], laidTests := true, laidLooks := .later }
def FnMsgsReadCardSaid : Prop := Claim7.holds Tryz.pinned (.plain (OpenSpec.ofChange fnMsgsReadSpec)) fnMsgsReadCard

/-- THE SECOND FORM's CARD OF 'laws.FnMsgs'. -/
def fnMsgsUptoCard : Claim7 := { stood := { row := fnMsgsUptoRow, standIns := [], harness := (true, "4eeabbbd9fcaea078cb7d35d320a8292975dd2bf1edf2a6380450f9fb26a514c"), looks := true }, kinds := [], alts := [], laidByText := true, laidKinds := [.handle], laidTests := true, laidLooks := .later }
def FnMsgsUptoCardSaid : Prop := Claim7.holds Tryz.pinned (.plain (OpenSpec.upto fnMsgsSpec)) fnMsgsUptoCard

/-- THE SECOND FORM's CARD OF 'laws.FnMsgsRead'. -/
def fnMsgsReadUptoCard : Claim7 := { stood := { row := fnMsgsReadUptoRow, standIns := [], harness := (true, "4eeabbbd9fcaea078cb7d35d320a8292975dd2bf1edf2a6380450f9fb26a514c"), looks := true }, kinds := [], alts := [], laidByText := true, laidKinds := [.handle], laidTests := true, laidLooks := .later }
def FnMsgsReadUptoCardSaid : Prop := Claim7.holds Tryz.pinned (.plain (OpenSpec.upto fnMsgsReadSpec)) fnMsgsReadUptoCard
end Rows
end Go.Proofs.YtamglfhnhjgdjaaGreatDoor
