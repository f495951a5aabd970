/-
  DERIVED. GIVEN WITH THE SEED: THE CARDS: each row of YthlodlileecmdaaDoorRows.lean that lists a variable, with what it lists TIED to the program's text (the seventh form; the later family's looks); each row that meets fmt, with fmt's text TOLD by the authors' own Lean function (tested against real Go, not proved from fmt's source: count such statements apart). THE CARD IS WHAT COUNTS. Prove the row's statement (the work); the ties are given (YthlodlileecmdaaDoorTie.lean); close each card by the builder's one call (the guide's Derived/Test/ToyasCard.lean, 'card_holds'). Laid BY PROGRAM, IN A SANDBOX (cutbox-door.mjs). By AI agents, Wed Nov 11 2026. No macro, syntax, notation, axiom, sorry.
-/
import Derived.Test.YthlodlileecmdaaDoorRows
import GoSem.ClaimSeven
namespace Go.Proofs.YthlodlileecmdaaDoor
namespace Rows

/-- THE TIED CARD OF 'homaruslaw04.CatchKeeps'. -/
def catchKeepsCard : Claim7 := { stood := { row := catchKeepsRow, standIns := [], harness := (true, "ee4f8395db573f655d4e5aa4c25710007c10ad7e42274291a9b608abe0b3e07e"), looks := false }, kinds := [], alts := [], laidByText := true, laidKinds := [.data], laidTests := true, laidLooks := .later }
def CatchKeepsCardSaid : Prop := Claim7.holds Tryd.pinned (.plain (OpenSpec.ofChange catchKeepsSpec)) catchKeepsCard

/-- THE TIED CARD OF 'homaruslaw04.CatchCounts'. -/
def catchCountsCard : Claim7 := { stood := { row := catchCountsRow, standIns := [], harness := (true, "ee4f8395db573f655d4e5aa4c25710007c10ad7e42274291a9b608abe0b3e07e"), looks := false }, kinds := [], alts := [], laidByText := true, laidKinds := [.data], laidTests := true, laidLooks := .later }
def CatchCountsCardSaid : Prop := Claim7.holds Tryd.pinned (.plain (OpenSpec.ofChange catchCountsSpec)) catchCountsCard

/-- THE TIED CARD OF 'homaruslaw04.CatchKnown'. -/
def catchKnownCard : Claim7 := { stood := { row := catchKnownRow, standIns := [], harness := (true, "ee4f8395db573f655d4e5aa4c25710007c10ad7e42274291a9b608abe0b3e07e"), looks := false }, kinds := [], alts := [], laidByText := true, laidKinds := [.data, .data, .data, .data], laidTests := true, laidLooks := .later }
def CatchKnownCardSaid : Prop := Claim7.holds Tryd.pinned (.plain (OpenSpec.ofChange catchKnownSpec)) catchKnownCard

/-- THE TIED CARD OF 'homaruslaw04.CatchTruth'. -/
def catchTruthCard : Claim7 := { stood := { row := catchTruthRow, standIns := [], harness := (true, "ee4f8395db573f655d4e5aa4c25710007c10ad7e42274291a9b608abe0b3e07e"), looks := false }, kinds := [], alts := [], laidByText := true, laidKinds := [.data], laidTests := true, laidLooks := .later }
def CatchTruthCardSaid : Prop := Claim7.holds Tryd.pinned (.plain (OpenSpec.ofChange catchTruthSpec)) catchTruthCard

/-- THE TIED CARD OF 'homaruslaw04.CatchNumbers'. -/
def catchNumbersCard : Claim7 := { stood := { row := catchNumbersRow, standIns := [], harness := (true, "ee4f8395db573f655d4e5aa4c25710007c10ad7e42274291a9b608abe0b3e07e"), looks := false }, kinds := [], alts := [], laidByText := true, laidKinds := [.data], laidTests := true, laidLooks := .later }
def CatchNumbersCardSaid : Prop := Claim7.holds Tryd.pinned (.plain (OpenSpec.ofChange catchNumbersSpec)) catchNumbersCard

/-- THE SECOND FORM's CARD OF 'homaruslaw04.CatchKeeps'. -/
def catchKeepsUptoCard : Claim7 := { stood := { row := catchKeepsUptoRow, standIns := [], harness := (true, "ee4f8395db573f655d4e5aa4c25710007c10ad7e42274291a9b608abe0b3e07e"), looks := false }, kinds := [], alts := [], laidByText := true, laidKinds := [.data], laidTests := true, laidLooks := .later }
def CatchKeepsUptoCardSaid : Prop := Claim7.holds Tryd.pinned (.plain (OpenSpec.upto catchKeepsSpec)) catchKeepsUptoCard

/-- THE SECOND FORM's CARD OF 'homaruslaw04.CatchCounts'. -/
def catchCountsUptoCard : Claim7 := { stood := { row := catchCountsUptoRow, standIns := [], harness := (true, "ee4f8395db573f655d4e5aa4c25710007c10ad7e42274291a9b608abe0b3e07e"), looks := false }, kinds := [], alts := [], laidByText := true, laidKinds := [.data], laidTests := true, laidLooks := .later }
def CatchCountsUptoCardSaid : Prop := Claim7.holds Tryd.pinned (.plain (OpenSpec.upto catchCountsSpec)) catchCountsUptoCard

/-- THE SECOND FORM's CARD OF 'homaruslaw04.CatchKnown'. -/
def catchKnownUptoCard : Claim7 := { stood := { row := catchKnownUptoRow, standIns := [], harness := (true, "ee4f8395db573f655d4e5aa4c25710007c10ad7e42274291a9b608abe0b3e07e"), looks := false }, kinds := [], alts := [], laidByText := true, laidKinds := [.data, .data, .data, .data], laidTests := true, laidLooks := .later }
def CatchKnownUptoCardSaid : Prop := Claim7.holds Tryd.pinned (.plain (OpenSpec.upto catchKnownSpec)) catchKnownUptoCard

/-- THE SECOND FORM's CARD OF 'homaruslaw04.CatchTruth'. -/
def catchTruthUptoCard : Claim7 := { stood := { row := catchTruthUptoRow, standIns := [], harness := (true, "ee4f8395db573f655d4e5aa4c25710007c10ad7e42274291a9b608abe0b3e07e"), looks := false }, kinds := [], alts := [], laidByText := true, laidKinds := [.data], laidTests := true, laidLooks := .later }
def CatchTruthUptoCardSaid : Prop := Claim7.holds Tryd.pinned (.plain (OpenSpec.upto catchTruthSpec)) catchTruthUptoCard

/-- THE SECOND FORM's CARD OF 'homaruslaw04.CatchNumbers'. -/
def catchNumbersUptoCard : Claim7 := { stood := { row := catchNumbersUptoRow, standIns := [], harness := (true, "ee4f8395db573f655d4e5aa4c25710007c10ad7e42274291a9b608abe0b3e07e"), looks := false }, kinds := [], alts := [], laidByText := true, laidKinds := [.data], laidTests := true, laidLooks := .later }
def CatchNumbersUptoCardSaid : Prop := Claim7.holds Tryd.pinned (.plain (OpenSpec.upto catchNumbersSpec)) catchNumbersUptoCard
end Rows
end Go.Proofs.YthlodlileecmdaaDoor
