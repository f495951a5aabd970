/-
  DERIVED. GIVEN WITH THE SEED: THE CARDS: each row of YtjkeojpmmljfaaaDoorRows.lean that lists a variable, with what it lists TIED to the program's text (the seventh form; the later family's looks); each row that meets fmt, with fmt's text TOLD by the authors' own Lean function (tested against real Go, not proved from fmt's source: count such statements apart). THE CARD IS WHAT COUNTS. Prove the row's statement (the work); the ties are given (YtjkeojpmmljfaaaDoorTie.lean); close each card by the builder's one call (the guide's Derived/Test/ToyasCard.lean, 'card_holds'). Laid BY PROGRAM, IN A SANDBOX (cutbox-door.mjs). By AI agents, Wed Nov 11 2026. No macro, syntax, notation, axiom, sorry.
-/
import Derived.Test.YtjkeojpmmljfaaaDoorRows
import GoSem.ClaimSeven
namespace Go.Proofs.YtjkeojpmmljfaaaDoor
namespace Rows

/-- THE TIED CARD OF 'homaruslaw01.GrowthChecks'. -/
def growthChecksCard : Claim7 := { stood := { row := growthChecksRow, standIns := [], harness := (true, "5e53fa7835465e652a9bdb3d84c4ab195b8d736bdd49b6913165516d879cffa4"), looks := true }, kinds := [], alts := [], laidByText := true, laidKinds := [.data], laidTests := true, laidLooks := .later }
def GrowthChecksCardSaid : Prop := Claim7.holds Tryd.pinned (.plain (OpenSpec.ofChange growthChecksSpec)) growthChecksCard

/-- THE TIED CARD OF 'homaruslaw01.GrowthSettles'. -/
def growthSettlesCard : Claim7 := { stood := { row := growthSettlesRow, standIns := [], harness := (true, "5e53fa7835465e652a9bdb3d84c4ab195b8d736bdd49b6913165516d879cffa4"), looks := true }, kinds := [], alts := [], laidByText := true, laidKinds := [.data], laidTests := true, laidLooks := .later }
def GrowthSettlesCardSaid : Prop := Claim7.holds Tryd.pinned (.plain (OpenSpec.ofChange growthSettlesSpec)) growthSettlesCard

/-- THE TIED CARD OF 'homaruslaw01.GrowthKnown'. -/
def growthKnownCard : Claim7 := { stood := { row := growthKnownRow, standIns := [], harness := (true, "5e53fa7835465e652a9bdb3d84c4ab195b8d736bdd49b6913165516d879cffa4"), looks := true }, kinds := [], alts := [], laidByText := true, laidKinds := [.data, .data, .data], laidTests := true, laidLooks := .later }
def GrowthKnownCardSaid : Prop := Claim7.holds Tryd.pinned (.plain (OpenSpec.ofChange growthKnownSpec)) growthKnownCard

/-- THE TIED CARD OF 'homaruslaw01.GrowthLarvae'. -/
def growthLarvaeCard : Claim7 := { stood := { row := growthLarvaeRow, standIns := [], harness := (true, "5e53fa7835465e652a9bdb3d84c4ab195b8d736bdd49b6913165516d879cffa4"), looks := true }, kinds := [], alts := [], laidByText := true, laidKinds := [.data], laidTests := true, laidLooks := .later }
def GrowthLarvaeCardSaid : Prop := Claim7.holds Tryd.pinned (.plain (OpenSpec.ofChange growthLarvaeSpec)) growthLarvaeCard

/-- THE TIED CARD OF 'homaruslaw01.GrowthTape'. -/
def growthTapeCard : Claim7 := { stood := { row := growthTapeRow, standIns := [], harness := (true, "5e53fa7835465e652a9bdb3d84c4ab195b8d736bdd49b6913165516d879cffa4"), looks := true }, kinds := [], alts := [], laidByText := true, laidKinds := [.data, .data, .data, .data, .sentinel, .sentinel, .pinned], laidTests := true, laidLooks := .later }
def GrowthTapeCardSaid : Prop := Claim7.holds Tryd.pinned (.plain (OpenSpec.ofChange growthTapeSpec)) growthTapeCard

/-- THE SECOND FORM's CARD OF 'homaruslaw01.GrowthChecks'. -/
def growthChecksUptoCard : Claim7 := { stood := { row := growthChecksUptoRow, standIns := [], harness := (true, "5e53fa7835465e652a9bdb3d84c4ab195b8d736bdd49b6913165516d879cffa4"), looks := true }, kinds := [], alts := [], laidByText := true, laidKinds := [.data], laidTests := true, laidLooks := .later }
def GrowthChecksUptoCardSaid : Prop := Claim7.holds Tryd.pinned (.plain (OpenSpec.upto growthChecksSpec)) growthChecksUptoCard

/-- THE SECOND FORM's CARD OF 'homaruslaw01.GrowthSettles'. -/
def growthSettlesUptoCard : Claim7 := { stood := { row := growthSettlesUptoRow, standIns := [], harness := (true, "5e53fa7835465e652a9bdb3d84c4ab195b8d736bdd49b6913165516d879cffa4"), looks := true }, kinds := [], alts := [], laidByText := true, laidKinds := [.data], laidTests := true, laidLooks := .later }
def GrowthSettlesUptoCardSaid : Prop := Claim7.holds Tryd.pinned (.plain (OpenSpec.upto growthSettlesSpec)) growthSettlesUptoCard

/-- THE SECOND FORM's CARD OF 'homaruslaw01.GrowthKnown'. -/
def growthKnownUptoCard : Claim7 := { stood := { row := growthKnownUptoRow, standIns := [], harness := (true, "5e53fa7835465e652a9bdb3d84c4ab195b8d736bdd49b6913165516d879cffa4"), looks := true }, kinds := [], alts := [], laidByText := true, laidKinds := [.data, .data, .data], laidTests := true, laidLooks := .later }
def GrowthKnownUptoCardSaid : Prop := Claim7.holds Tryd.pinned (.plain (OpenSpec.upto growthKnownSpec)) growthKnownUptoCard

/-- THE SECOND FORM's CARD OF 'homaruslaw01.GrowthLarvae'. -/
def growthLarvaeUptoCard : Claim7 := { stood := { row := growthLarvaeUptoRow, standIns := [], harness := (true, "5e53fa7835465e652a9bdb3d84c4ab195b8d736bdd49b6913165516d879cffa4"), looks := true }, kinds := [], alts := [], laidByText := true, laidKinds := [.data], laidTests := true, laidLooks := .later }
def GrowthLarvaeUptoCardSaid : Prop := Claim7.holds Tryd.pinned (.plain (OpenSpec.upto growthLarvaeSpec)) growthLarvaeUptoCard

/-- THE SECOND FORM's CARD OF 'homaruslaw01.GrowthTape'. -/
def growthTapeUptoCard : Claim7 := { stood := { row := growthTapeUptoRow, standIns := [], harness := (true, "5e53fa7835465e652a9bdb3d84c4ab195b8d736bdd49b6913165516d879cffa4"), looks := true }, kinds := [], alts := [], laidByText := true, laidKinds := [.data, .data, .data, .data, .sentinel, .sentinel, .pinned], laidTests := true, laidLooks := .later }
def GrowthTapeUptoCardSaid : Prop := Claim7.holds Tryd.pinned (.plain (OpenSpec.upto growthTapeSpec)) growthTapeUptoCard
end Rows
end Go.Proofs.YtjkeojpmmljfaaaDoor
