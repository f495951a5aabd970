/-
  DERIVED. GIVEN WITH THE SEED: THE CARDS: each row of YtgdnhmilhpnbjaaDoorRows.lean that lists a variable, with what it lists TIED to the program's text (the seventh form; the later family's looks); each row that meets fmt, with fmt's text TOLD by the authors' own Lean function (tested against real Go, not proved from fmt's source: count such statements apart). THE CARD IS WHAT COUNTS. Prove the row's statement (the work); the ties are given (YtgdnhmilhpnbjaaDoorTie.lean); close each card by the builder's one call (the guide's Derived/Test/ToyasCard.lean, 'card_holds'). Laid BY PROGRAM, IN A SANDBOX (cutbox-door.mjs). By AI agents, Wed Nov 11 2026. No macro, syntax, notation, axiom, sorry.
-/
import Derived.Test.YtgdnhmilhpnbjaaDoorRows
import GoSem.ClaimSeven
namespace Go.Proofs.YtgdnhmilhpnbjaaDoor
namespace Rows

/-- THE TIED CARD OF 'homaruslaw01.GrowthChecks'. -/
def growthChecksCard : Claim7 := { stood := { row := growthChecksRow, standIns := [], harness := (true, "369094bff0b404e97aebe8777402a507bab93469a19c47ef7fa8e54ad40627a3"), looks := false }, kinds := [], alts := [], laidByText := true, laidKinds := [.data], laidTests := true, laidLooks := .later }
def GrowthChecksCardSaid : Prop := Claim7.holds Tryd.pinned (.plain (OpenSpec.ofChange growthChecksSpec)) growthChecksCard

/-- THE TIED CARD OF 'homaruslaw01.GrowthSettles'. -/
def growthSettlesCard : Claim7 := { stood := { row := growthSettlesRow, standIns := [], harness := (true, "369094bff0b404e97aebe8777402a507bab93469a19c47ef7fa8e54ad40627a3"), looks := false }, kinds := [], alts := [], laidByText := true, laidKinds := [.data], laidTests := true, laidLooks := .later }
def GrowthSettlesCardSaid : Prop := Claim7.holds Tryd.pinned (.plain (OpenSpec.ofChange growthSettlesSpec)) growthSettlesCard

/-- THE TIED CARD OF 'homaruslaw01.GrowthLarvae'. -/
def growthLarvaeCard : Claim7 := { stood := { row := growthLarvaeRow, standIns := [], harness := (true, "369094bff0b404e97aebe8777402a507bab93469a19c47ef7fa8e54ad40627a3"), looks := false }, kinds := [], alts := [], laidByText := true, laidKinds := [.data], laidTests := true, laidLooks := .later }
def GrowthLarvaeCardSaid : Prop := Claim7.holds Tryd.pinned (.plain (OpenSpec.ofChange growthLarvaeSpec)) growthLarvaeCard

/-- THE SECOND FORM's CARD OF 'homaruslaw01.GrowthChecks'. -/
def growthChecksUptoCard : Claim7 := { stood := { row := growthChecksUptoRow, standIns := [], harness := (true, "369094bff0b404e97aebe8777402a507bab93469a19c47ef7fa8e54ad40627a3"), looks := false }, kinds := [], alts := [], laidByText := true, laidKinds := [.data], laidTests := true, laidLooks := .later }
def GrowthChecksUptoCardSaid : Prop := Claim7.holds Tryd.pinned (.plain (OpenSpec.upto growthChecksSpec)) growthChecksUptoCard

/-- THE SECOND FORM's CARD OF 'homaruslaw01.GrowthSettles'. -/
def growthSettlesUptoCard : Claim7 := { stood := { row := growthSettlesUptoRow, standIns := [], harness := (true, "369094bff0b404e97aebe8777402a507bab93469a19c47ef7fa8e54ad40627a3"), looks := false }, kinds := [], alts := [], laidByText := true, laidKinds := [.data], laidTests := true, laidLooks := .later }
def GrowthSettlesUptoCardSaid : Prop := Claim7.holds Tryd.pinned (.plain (OpenSpec.upto growthSettlesSpec)) growthSettlesUptoCard

/-- THE SECOND FORM's CARD OF 'homaruslaw01.GrowthLarvae'. -/
def growthLarvaeUptoCard : Claim7 := { stood := { row := growthLarvaeUptoRow, standIns := [], harness := (true, "369094bff0b404e97aebe8777402a507bab93469a19c47ef7fa8e54ad40627a3"), looks := false }, kinds := [], alts := [], laidByText := true, laidKinds := [.data], laidTests := true, laidLooks := .later }
def GrowthLarvaeUptoCardSaid : Prop := Claim7.holds Tryd.pinned (.plain (OpenSpec.upto growthLarvaeSpec)) growthLarvaeUptoCard
end Rows
end Go.Proofs.YtgdnhmilhpnbjaaDoor
