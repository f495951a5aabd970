/-
  DERIVED. GIVEN WITH THE SEED: THE CARDS: each row of YtfaddahidniclafDoorRows.lean that lists a variable, with what it lists TIED to the program's text (the seventh form; the later family's looks); each row that meets fmt, with fmt's text TOLD by the authors' own Lean function (tested against real Go, not proved from fmt's source: count such statements apart). THE CARD IS WHAT COUNTS. Prove the row's statement (the work); the ties are given (YtfaddahidniclafDoorTie.lean); close each card by the builder's one call (the guide's Derived/Test/ToyasCard.lean, 'card_holds'). Laid BY PROGRAM, IN A SANDBOX (cutbox-door.mjs). By AI agents, Wed Nov 11 2026. No macro, syntax, notation, axiom, sorry.
-/
import Derived.Test.YtfaddahidniclafDoorRows
import GoSem.ClaimSeven
namespace Go.Proofs.YtfaddahidniclafDoor
namespace Rows

/-- THE TIED CARD OF 'homaruslaw03.HaulKnown'. -/
def haulKnownCard : Claim7 := { stood := { row := haulKnownRow, standIns := [], harness := (true, "716f40e0e16669e98fc1df4f7c56bb391bf73a8d71b52e4741c7bd65ae9e84b7"), looks := false }, kinds := [], alts := [], laidByText := true, laidKinds := [.data, .data, .data], laidTests := true, laidLooks := .later }
def HaulKnownCardSaid : Prop := Claim7.holds Tryd.pinned (.plain (OpenSpec.ofChange haulKnownSpec)) haulKnownCard

/-- THE SECOND FORM's CARD OF 'homaruslaw03.HaulKnown'. -/
def haulKnownUptoCard : Claim7 := { stood := { row := haulKnownUptoRow, standIns := [], harness := (true, "716f40e0e16669e98fc1df4f7c56bb391bf73a8d71b52e4741c7bd65ae9e84b7"), looks := false }, kinds := [], alts := [], laidByText := true, laidKinds := [.data, .data, .data], laidTests := true, laidLooks := .later }
def HaulKnownUptoCardSaid : Prop := Claim7.holds Tryd.pinned (.plain (OpenSpec.upto haulKnownSpec)) haulKnownUptoCard
end Rows
end Go.Proofs.YtfaddahidniclafDoor
