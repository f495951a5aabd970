/-
  DERIVED. GIVEN WITH THE SEED: THE CARDS: each row of YtfaddahidniclacDoorRows.lean that lists a variable, with what it lists TIED to the program's text (the seventh form; the later family's looks); each row that meets fmt, with fmt's text TOLD by the authors' own Lean function (tested against real Go, not proved from fmt's source: count such statements apart). THE CARD IS WHAT COUNTS. Prove the row's statement (the work); the ties are given (YtfaddahidniclacDoorTie.lean); close each card by the builder's one call (the guide's Derived/Test/ToyasCard.lean, 'card_holds'). Laid BY PROGRAM, IN A SANDBOX (cutbox-door.mjs). By AI agents, Wed Nov 11 2026. No macro, syntax, notation, axiom, sorry.
-/
import Derived.Test.YtfaddahidniclacDoorRows
import GoSem.ClaimSeven
namespace Go.Proofs.YtfaddahidniclacDoor
namespace Rows

/-- THE TIED CARD OF 'homaruslaw04.CatchKnown'. -/
def catchKnownCard : Claim7 := { stood := { row := catchKnownRow, standIns := [], harness := (true, "30562d5870cc1bfef688da4fefca38f398a25c5686974af0fb95d25da19900cc"), looks := false }, kinds := [], alts := [], laidByText := true, laidKinds := [.data, .data, .data, .data], laidTests := true, laidLooks := .later }
def CatchKnownCardSaid : Prop := Claim7.holds Tryd.pinned (.plain (OpenSpec.ofChange catchKnownSpec)) catchKnownCard

/-- THE SECOND FORM's CARD OF 'homaruslaw04.CatchKnown'. -/
def catchKnownUptoCard : Claim7 := { stood := { row := catchKnownUptoRow, standIns := [], harness := (true, "30562d5870cc1bfef688da4fefca38f398a25c5686974af0fb95d25da19900cc"), looks := false }, kinds := [], alts := [], laidByText := true, laidKinds := [.data, .data, .data, .data], laidTests := true, laidLooks := .later }
def CatchKnownUptoCardSaid : Prop := Claim7.holds Tryd.pinned (.plain (OpenSpec.upto catchKnownSpec)) catchKnownUptoCard
end Rows
end Go.Proofs.YtfaddahidniclacDoor
