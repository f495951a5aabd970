/-
  DERIVED. GIVEN WITH THE SEED: THE CARDS: each row of YtfaddahidniclaaDoorRows.lean that lists a variable, with what it lists TIED to the program's text (the seventh form; the later family's looks); each row that meets fmt, with fmt's text TOLD by the authors' own Lean function (tested against real Go, not proved from fmt's source: count such statements apart). THE CARD IS WHAT COUNTS. Prove the row's statement (the work); the ties are given (YtfaddahidniclaaDoorTie.lean); close each card by the builder's one call (the guide's Derived/Test/ToyasCard.lean, 'card_holds'). Laid BY PROGRAM, IN A SANDBOX (cutbox-door.mjs). By AI agents, Wed Nov 11 2026. No macro, syntax, notation, axiom, sorry.
-/
import Derived.Test.YtfaddahidniclaaDoorRows
import GoSem.ClaimSeven
namespace Go.Proofs.YtfaddahidniclaaDoor
namespace Rows

/-- THE TIED CARD OF 'homaruslaw09.CoopKnown'. -/
def coopKnownCard : Claim7 := { stood := { row := coopKnownRow, standIns := [], harness := (true, "e1108563d271fc671df56bd7c8837044848a812c0ec7f86d31dfb6986f594a64"), looks := false }, kinds := [], alts := [], laidByText := true, laidKinds := [.data, .data, .data], laidTests := true, laidLooks := .later }
def CoopKnownCardSaid : Prop := Claim7.holds Tryd.pinned (.plain (OpenSpec.ofChange coopKnownSpec)) coopKnownCard

/-- THE SECOND FORM's CARD OF 'homaruslaw09.CoopKnown'. -/
def coopKnownUptoCard : Claim7 := { stood := { row := coopKnownUptoRow, standIns := [], harness := (true, "e1108563d271fc671df56bd7c8837044848a812c0ec7f86d31dfb6986f594a64"), looks := false }, kinds := [], alts := [], laidByText := true, laidKinds := [.data, .data, .data], laidTests := true, laidLooks := .later }
def CoopKnownUptoCardSaid : Prop := Claim7.holds Tryd.pinned (.plain (OpenSpec.upto coopKnownSpec)) coopKnownUptoCard
end Rows
end Go.Proofs.YtfaddahidniclaaDoor
