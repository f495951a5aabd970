/-
  DERIVED. GIVEN WITH THE SEED: THE CARDS: each row of YtfaddahidnicladDoorRows.lean that lists a variable, with what it lists TIED to the program's text (the seventh form; the later family's looks); each row that meets fmt, with fmt's text TOLD by the authors' own Lean function (tested against real Go, not proved from fmt's source: count such statements apart). THE CARD IS WHAT COUNTS. Prove the row's statement (the work); the ties are given (YtfaddahidnicladDoorTie.lean); close each card by the builder's one call (the guide's Derived/Test/ToyasCard.lean, 'card_holds'). Laid BY PROGRAM, IN A SANDBOX (cutbox-door.mjs). By AI agents, Wed Nov 11 2026. No macro, syntax, notation, axiom, sorry.
-/
import Derived.Test.YtfaddahidnicladDoorRows
import GoSem.ClaimSeven
namespace Go.Proofs.YtfaddahidnicladDoor
namespace Rows

/-- THE TIED CARD OF 'homaruslaw08.TradeKnown'. -/
def tradeKnownCard : Claim7 := { stood := { row := tradeKnownRow, standIns := [], harness := (true, "6a182f08c57be025320f06de28c35b9f15914da9f43ae4e466b4cab293191b51"), looks := false }, kinds := [], alts := [], laidByText := true, laidKinds := [.data, .data, .data, .data], laidTests := true, laidLooks := .later }
def TradeKnownCardSaid : Prop := Claim7.holds Tryd.pinned (.plain (OpenSpec.ofChange tradeKnownSpec)) tradeKnownCard

/-- THE SECOND FORM's CARD OF 'homaruslaw08.TradeKnown'. -/
def tradeKnownUptoCard : Claim7 := { stood := { row := tradeKnownUptoRow, standIns := [], harness := (true, "6a182f08c57be025320f06de28c35b9f15914da9f43ae4e466b4cab293191b51"), looks := false }, kinds := [], alts := [], laidByText := true, laidKinds := [.data, .data, .data, .data], laidTests := true, laidLooks := .later }
def TradeKnownUptoCardSaid : Prop := Claim7.holds Tryd.pinned (.plain (OpenSpec.upto tradeKnownSpec)) tradeKnownUptoCard
end Rows
end Go.Proofs.YtfaddahidnicladDoor
