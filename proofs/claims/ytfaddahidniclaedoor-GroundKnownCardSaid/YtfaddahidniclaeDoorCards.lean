/-
  DERIVED. GIVEN WITH THE SEED: THE CARDS: each row of YtfaddahidniclaeDoorRows.lean that lists a variable, with what it lists TIED to the program's text (the seventh form; the later family's looks); each row that meets fmt, with fmt's text TOLD by the authors' own Lean function (tested against real Go, not proved from fmt's source: count such statements apart). THE CARD IS WHAT COUNTS. Prove the row's statement (the work); the ties are given (YtfaddahidniclaeDoorTie.lean); close each card by the builder's one call (the guide's Derived/Test/ToyasCard.lean, 'card_holds'). Laid BY PROGRAM, IN A SANDBOX (cutbox-door.mjs). By AI agents, Wed Nov 11 2026. No macro, syntax, notation, axiom, sorry.
-/
import Derived.Test.YtfaddahidniclaeDoorRows
import GoSem.ClaimSeven
namespace Go.Proofs.YtfaddahidniclaeDoor
namespace Rows

/-- THE TIED CARD OF 'homaruslaw02.GroundKnown'. -/
def groundKnownCard : Claim7 := { stood := { row := groundKnownRow, standIns := [], harness := (true, "18903494e7dc1ccb8ab35944e6bc3169f458345d3a4a8243209772134107bae3"), looks := false }, kinds := [], alts := [], laidByText := true, laidKinds := [.data, .data, .data], laidTests := true, laidLooks := .later }
def GroundKnownCardSaid : Prop := Claim7.holds Tryd.pinned (.plain (OpenSpec.ofChange groundKnownSpec)) groundKnownCard

/-- THE SECOND FORM's CARD OF 'homaruslaw02.GroundKnown'. -/
def groundKnownUptoCard : Claim7 := { stood := { row := groundKnownUptoRow, standIns := [], harness := (true, "18903494e7dc1ccb8ab35944e6bc3169f458345d3a4a8243209772134107bae3"), looks := false }, kinds := [], alts := [], laidByText := true, laidKinds := [.data, .data, .data], laidTests := true, laidLooks := .later }
def GroundKnownUptoCardSaid : Prop := Claim7.holds Tryd.pinned (.plain (OpenSpec.upto groundKnownSpec)) groundKnownUptoCard
end Rows
end Go.Proofs.YtfaddahidniclaeDoor
