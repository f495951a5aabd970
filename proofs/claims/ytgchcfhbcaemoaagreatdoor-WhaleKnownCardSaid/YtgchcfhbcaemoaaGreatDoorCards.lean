/-
  DERIVED. GIVEN WITH THE SEED: THE CARDS: each row of YtgchcfhbcaemoaaGreatDoorRows.lean that lists a variable, with what it lists TIED to the program's text (the seventh form; the later family's looks); each row that meets fmt, with fmt's text TOLD by the authors' own Lean function (tested against real Go, not proved from fmt's source: count such statements apart). THE CARD IS WHAT COUNTS. Prove the row's statement (the work); the ties are given (YtgchcfhbcaemoaaGreatDoorTie.lean); close each card by the builder's one call (the guide's Derived/Test/ToyasCard.lean, 'card_holds'). Laid BY PROGRAM, IN A SANDBOX (cutbox-door.mjs). By AI agents, Wed Nov 11 2026. No macro, syntax, notation, axiom, sorry.
-/
import Derived.Test.YtgchcfhbcaemoaaGreatDoorRows
import GoSem.ClaimSeven
namespace Go.Proofs.YtgchcfhbcaemoaaGreatDoor
namespace Rows

/-- THE TIED CARD OF 'homaruslaw06.WhaleKnown'. -/
def whaleKnownCard : Claim7 := { stood := { row := whaleKnownRow, standIns := [], harness := (true, "93e127c9a775d7c906a98eac82354cc8058768613f56be1dfffb2471d3e66ca4"), looks := false }, kinds := [], alts := [], laidByText := true, laidKinds := [.data, .data], laidTests := true, laidLooks := .later }
def WhaleKnownCardSaid : Prop := Claim7.holds Tryz.pinned (.plain (OpenSpec.ofChange whaleKnownSpec)) whaleKnownCard

/-- THE SECOND FORM's CARD OF 'homaruslaw06.WhaleKnown'. -/
def whaleKnownUptoCard : Claim7 := { stood := { row := whaleKnownUptoRow, standIns := [], harness := (true, "93e127c9a775d7c906a98eac82354cc8058768613f56be1dfffb2471d3e66ca4"), looks := false }, kinds := [], alts := [], laidByText := true, laidKinds := [.data, .data], laidTests := true, laidLooks := .later }
def WhaleKnownUptoCardSaid : Prop := Claim7.holds Tryz.pinned (.plain (OpenSpec.upto whaleKnownSpec)) whaleKnownUptoCard
end Rows
end Go.Proofs.YtgchcfhbcaemoaaGreatDoor
