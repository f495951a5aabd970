/-
  DERIVED. GIVEN WITH THE SEED: THE CARDS: each row of YtgchcfhbcaemoabGreatDoorRows.lean that lists a variable, with what it lists TIED to the program's text (the seventh form; the later family's looks); each row that meets fmt, with fmt's text TOLD by the authors' own Lean function (tested against real Go, not proved from fmt's source: count such statements apart). THE CARD IS WHAT COUNTS. Prove the row's statement (the work); the ties are given (YtgchcfhbcaemoabGreatDoorTie.lean); close each card by the builder's one call (the guide's Derived/Test/ToyasCard.lean, 'card_holds'). Laid BY PROGRAM, IN A SANDBOX (cutbox-door.mjs). By AI agents, Wed Nov 11 2026. No macro, syntax, notation, axiom, sorry.
-/
import Derived.Test.YtgchcfhbcaemoabGreatDoorRows
import GoSem.ClaimSeven
namespace Go.Proofs.YtgchcfhbcaemoabGreatDoor
namespace Rows

/-- THE TIED CARD OF 'homaruslaw10.BayKnown'. -/
def bayKnownCard : Claim7 := { stood := { row := bayKnownRow, standIns := [], harness := (true, "8082b3b37d80d4dc09f87a58b6ce1ad16f10272bb6697145daf68e5d083cf5f9"), looks := true }, kinds := [], alts := [], laidByText := true, laidKinds := [.data, .data, .data, .sentinel, .sentinel], laidTests := true, laidLooks := .later }
def BayKnownCardSaid : Prop := Claim7.holds Tryz.pinned (.plain (OpenSpec.ofChange bayKnownSpec)) bayKnownCard

/-- THE SECOND FORM's CARD OF 'homaruslaw10.BayKnown'. -/
def bayKnownUptoCard : Claim7 := { stood := { row := bayKnownUptoRow, standIns := [], harness := (true, "8082b3b37d80d4dc09f87a58b6ce1ad16f10272bb6697145daf68e5d083cf5f9"), looks := true }, kinds := [], alts := [], laidByText := true, laidKinds := [.data, .data, .data, .sentinel, .sentinel], laidTests := true, laidLooks := .later }
def BayKnownUptoCardSaid : Prop := Claim7.holds Tryz.pinned (.plain (OpenSpec.upto bayKnownSpec)) bayKnownUptoCard
end Rows
end Go.Proofs.YtgchcfhbcaemoabGreatDoor
