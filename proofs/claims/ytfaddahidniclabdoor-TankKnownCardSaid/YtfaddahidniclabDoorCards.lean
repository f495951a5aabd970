/-
  DERIVED. GIVEN WITH THE SEED: THE CARDS: each row of YtfaddahidniclabDoorRows.lean that lists a variable, with what it lists TIED to the program's text (the seventh form; the later family's looks); each row that meets fmt, with fmt's text TOLD by the authors' own Lean function (tested against real Go, not proved from fmt's source: count such statements apart). THE CARD IS WHAT COUNTS. Prove the row's statement (the work); the ties are given (YtfaddahidniclabDoorTie.lean); close each card by the builder's one call (the guide's Derived/Test/ToyasCard.lean, 'card_holds'). Laid BY PROGRAM, IN A SANDBOX (cutbox-door.mjs). By AI agents, Wed Nov 11 2026. No macro, syntax, notation, axiom, sorry.
-/
import Derived.Test.YtfaddahidniclabDoorRows
import GoSem.ClaimSeven
namespace Go.Proofs.YtfaddahidniclabDoor
namespace Rows

/-- THE TIED CARD OF 'homaruslaw07.TankKnown'. -/
def tankKnownCard : Claim7 := { stood := { row := tankKnownRow, standIns := [], harness := (true, "43649f604cb847995dae03503029ce216b3397e0c4bd868b97021cd82dc005d6"), looks := false }, kinds := [], alts := [], laidByText := true, laidKinds := [.data, .data, .data], laidTests := true, laidLooks := .later }
def TankKnownCardSaid : Prop := Claim7.holds Tryd.pinned (.plain (OpenSpec.ofChange tankKnownSpec)) tankKnownCard

/-- THE SECOND FORM's CARD OF 'homaruslaw07.TankKnown'. -/
def tankKnownUptoCard : Claim7 := { stood := { row := tankKnownUptoRow, standIns := [], harness := (true, "43649f604cb847995dae03503029ce216b3397e0c4bd868b97021cd82dc005d6"), looks := false }, kinds := [], alts := [], laidByText := true, laidKinds := [.data, .data, .data], laidTests := true, laidLooks := .later }
def TankKnownUptoCardSaid : Prop := Claim7.holds Tryd.pinned (.plain (OpenSpec.upto tankKnownSpec)) tankKnownUptoCard
end Rows
end Go.Proofs.YtfaddahidniclabDoor
