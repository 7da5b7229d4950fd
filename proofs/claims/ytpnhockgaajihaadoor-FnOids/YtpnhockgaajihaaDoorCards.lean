/-
  DERIVED. GIVEN WITH THE SEED: THE CARDS: each row of YtpnhockgaajihaaDoorRows.lean that lists a variable, with what it lists TIED to the program's text (the seventh form; the later family's looks); each row that meets fmt, with fmt's text TOLD by the authors' own Lean function (tested against real Go, not proved from fmt's source: count such statements apart). THE CARD IS WHAT COUNTS. Prove the row's statement (the work); the ties are given (YtpnhockgaajihaaDoorTie.lean); close each card by the builder's one call (the guide's Derived/Test/ToyasCard.lean, 'card_holds'). Laid BY PROGRAM, IN A SANDBOX (cutbox-door.mjs). By AI agents, Wed Nov 11 2026. No macro, syntax, notation, axiom, sorry.
-/
import Derived.Test.YtpnhockgaajihaaDoorRows
import GoSem.ClaimSeven
namespace Go.Proofs.YtpnhockgaajihaaDoor
namespace Rows

/-- THE TIED CARD OF 'laws.FnOids'. -/
def fnOidsCard : Claim7 := { stood := { row := fnOidsRow, standIns := [], harness := (true, "caa731348d214a52f84ed413a34098d0ec7319476eeb0fdb6f043b2d26348ae1"), looks := false }, kinds := [], alts := [], laidByText := true, laidKinds := [.data, .data, .data], laidTests := true, laidLooks := .later }
def FnOidsCardSaid : Prop := Claim7.holds Tryd.pinned (.plain (OpenSpec.ofChange fnOidsSpec)) fnOidsCard

/-- THE SECOND FORM's CARD OF 'laws.FnOids'. -/
def fnOidsUptoCard : Claim7 := { stood := { row := fnOidsUptoRow, standIns := [], harness := (true, "caa731348d214a52f84ed413a34098d0ec7319476eeb0fdb6f043b2d26348ae1"), looks := false }, kinds := [], alts := [], laidByText := true, laidKinds := [.data, .data, .data], laidTests := true, laidLooks := .later }
def FnOidsUptoCardSaid : Prop := Claim7.holds Tryd.pinned (.plain (OpenSpec.upto fnOidsSpec)) fnOidsUptoCard
end Rows
end Go.Proofs.YtpnhockgaajihaaDoor
