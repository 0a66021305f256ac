/-
  DERIVED. GIVEN WITH THE SEED: THE CARDS: each row of YtomfclkldmmmgaaDoorRows.lean that lists a variable, with what it lists TIED to the program's text (the seventh form; the later family's looks); each row that meets fmt, with fmt's text TOLD by the authors' own Lean function (tested against real Go, not proved from fmt's source: count such statements apart). THE CARD IS WHAT COUNTS. Prove the row's statement (the work); the ties are given (YtomfclkldmmmgaaDoorTie.lean); close each card by the builder's one call (the guide's Derived/Test/ToyasCard.lean, 'card_holds'). Laid BY PROGRAM, IN A SANDBOX (cutbox-door.mjs). By AI agents, Wed Nov 11 2026. No macro, syntax, notation, axiom, sorry.
-/
import Derived.Test.YtomfclkldmmmgaaDoorRows
import GoSem.ClaimSeven
namespace Go.Proofs.YtomfclkldmmmgaaDoor
namespace Rows

/-- THE TIED CARD OF 'linotypelaw24.RowOwn'. -/
def rowOwnCard : Claim7 := { stood := { row := rowOwnRow, standIns := [], harness := (true, "af3c75ab006795a883a5c592d1e6a3de12c6b9ada0ad9a34dff41b5416797654"), looks := true }, kinds := [], alts := [], laidByText := true, laidKinds := [.sentinel, .sentinel], laidTests := true, laidLooks := .later }
def RowOwnCardSaid : Prop := Claim7.holds Tryd.pinned (.plain (OpenSpec.ofChange rowOwnSpec)) rowOwnCard

/-- THE TIED CARD OF 'linotypelaw25.MarkPlays'. -/
def markPlaysCard : Claim7 := { stood := { row := markPlaysRow, standIns := [], harness := (true, "af3c75ab006795a883a5c592d1e6a3de12c6b9ada0ad9a34dff41b5416797654"), looks := true }, kinds := [], alts := [], laidByText := true, laidKinds := [.sentinel, .sentinel, .sentinel, .sentinel, .sentinel, .sentinel, .sentinel, .sentinel], laidTests := true, laidLooks := .later }
def MarkPlaysCardSaid : Prop := Claim7.holds Tryd.pinned (.plain (OpenSpec.ofChange markPlaysSpec)) markPlaysCard

/-- THE TIED CARD OF 'linotypelaw25.MarkWidens'. -/
def markWidensCard : Claim7 := { stood := { row := markWidensRow, standIns := [], harness := (true, "af3c75ab006795a883a5c592d1e6a3de12c6b9ada0ad9a34dff41b5416797654"), looks := true }, kinds := [], alts := [], laidByText := true, laidKinds := [.sentinel, .sentinel], laidTests := true, laidLooks := .later }
def MarkWidensCardSaid : Prop := Claim7.holds Tryd.pinned (.plain (OpenSpec.ofChange markWidensSpec)) markWidensCard

/-- THE TIED CARD OF 'linotypelaw26.ErasePlays'. -/
def erasePlaysCard : Claim7 := { stood := { row := erasePlaysRow, standIns := [], harness := (true, "af3c75ab006795a883a5c592d1e6a3de12c6b9ada0ad9a34dff41b5416797654"), looks := true }, kinds := [], alts := [], laidByText := true, laidKinds := [.sentinel, .sentinel], laidTests := true, laidLooks := .later }
def ErasePlaysCardSaid : Prop := Claim7.holds Tryd.pinned (.plain (OpenSpec.ofChange erasePlaysSpec)) erasePlaysCard

/-- THE TIED CARD OF 'linotypelaw26.EraseFar'. -/
def eraseFarCard : Claim7 := { stood := { row := eraseFarRow, standIns := [], harness := (true, "af3c75ab006795a883a5c592d1e6a3de12c6b9ada0ad9a34dff41b5416797654"), looks := true }, kinds := [], alts := [], laidByText := true, laidKinds := [.sentinel, .sentinel], laidTests := true, laidLooks := .later }
def EraseFarCardSaid : Prop := Claim7.holds Tryd.pinned (.plain (OpenSpec.ofChange eraseFarSpec)) eraseFarCard

/-- THE TIED CARD OF 'linotypelaw27.ShiftPlays'. -/
def shiftPlaysCard : Claim7 := { stood := { row := shiftPlaysRow, standIns := [], harness := (true, "af3c75ab006795a883a5c592d1e6a3de12c6b9ada0ad9a34dff41b5416797654"), looks := true }, kinds := [], alts := [], laidByText := true, laidKinds := [.sentinel, .sentinel], laidTests := true, laidLooks := .later }
def ShiftPlaysCardSaid : Prop := Claim7.holds Tryd.pinned (.plain (OpenSpec.ofChange shiftPlaysSpec)) shiftPlaysCard

/-- THE TIED CARD OF 'linotypelaw27.ShiftBack'. -/
def shiftBackCard : Claim7 := { stood := { row := shiftBackRow, standIns := [], harness := (true, "af3c75ab006795a883a5c592d1e6a3de12c6b9ada0ad9a34dff41b5416797654"), looks := true }, kinds := [], alts := [], laidByText := true, laidKinds := [.sentinel, .sentinel], laidTests := true, laidLooks := .later }
def ShiftBackCardSaid : Prop := Claim7.holds Tryd.pinned (.plain (OpenSpec.ofChange shiftBackSpec)) shiftBackCard

/-- THE TIED CARD OF 'linotypelaw28.FitResizes'. -/
def fitResizesCard : Claim7 := { stood := { row := fitResizesRow, standIns := [], harness := (true, "af3c75ab006795a883a5c592d1e6a3de12c6b9ada0ad9a34dff41b5416797654"), looks := true }, kinds := [], alts := [], laidByText := true, laidKinds := [.sentinel, .sentinel], laidTests := true, laidLooks := .later }
def FitResizesCardSaid : Prop := Claim7.holds Tryd.pinned (.plain (OpenSpec.ofChange fitResizesSpec)) fitResizesCard

/-- THE TIED CARD OF 'linotypelaw28.FitSplits'. -/
def fitSplitsCard : Claim7 := { stood := { row := fitSplitsRow, standIns := [], harness := (true, "af3c75ab006795a883a5c592d1e6a3de12c6b9ada0ad9a34dff41b5416797654"), looks := true }, kinds := [], alts := [], laidByText := true, laidKinds := [.sentinel, .sentinel], laidTests := true, laidLooks := .later }
def FitSplitsCardSaid : Prop := Claim7.holds Tryd.pinned (.plain (OpenSpec.ofChange fitSplitsSpec)) fitSplitsCard

/-- THE TIED CARD OF 'linotypelaw28.FitJoins'. -/
def fitJoinsCard : Claim7 := { stood := { row := fitJoinsRow, standIns := [], harness := (true, "af3c75ab006795a883a5c592d1e6a3de12c6b9ada0ad9a34dff41b5416797654"), looks := true }, kinds := [], alts := [], laidByText := true, laidKinds := [.sentinel, .sentinel], laidTests := true, laidLooks := .later }
def FitJoinsCardSaid : Prop := Claim7.holds Tryd.pinned (.plain (OpenSpec.ofChange fitJoinsSpec)) fitJoinsCard

/-- THE TIED CARD OF 'linotypelaw30.RowtextTells'. -/
def rowtextTellsCard : Claim7 := { stood := { row := rowtextTellsRow, standIns := [], harness := (true, "af3c75ab006795a883a5c592d1e6a3de12c6b9ada0ad9a34dff41b5416797654"), looks := true }, kinds := [], alts := [], laidByText := true, laidKinds := [.sentinel, .sentinel], laidTests := true, laidLooks := .later }
def RowtextTellsCardSaid : Prop := Claim7.holds Tryd.pinned (.plain (OpenSpec.ofChange rowtextTellsSpec)) rowtextTellsCard

/-- THE TIED CARD OF 'linotypelaw32.GridMakes'. -/
def gridMakesCard : Claim7 := { stood := { row := gridMakesRow, standIns := [], harness := (true, "af3c75ab006795a883a5c592d1e6a3de12c6b9ada0ad9a34dff41b5416797654"), looks := true }, kinds := [], alts := [], laidByText := true, laidKinds := [.handle, .sentinel, .sentinel, .sentinel, .sentinel, .sentinel, .sentinel, .sentinel, .sentinel], laidTests := true, laidLooks := .later }
def GridMakesCardSaid : Prop := Claim7.holds Tryd.pinned (.plain (OpenSpec.ofChange gridMakesSpec)) gridMakesCard

/-- THE SECOND FORM's CARD OF 'linotypelaw24.RowOwn'. -/
def rowOwnUptoCard : Claim7 := { stood := { row := rowOwnUptoRow, standIns := [], harness := (true, "af3c75ab006795a883a5c592d1e6a3de12c6b9ada0ad9a34dff41b5416797654"), looks := true }, kinds := [], alts := [], laidByText := true, laidKinds := [.sentinel, .sentinel], laidTests := true, laidLooks := .later }
def RowOwnUptoCardSaid : Prop := Claim7.holds Tryd.pinned (.plain (OpenSpec.upto rowOwnSpec)) rowOwnUptoCard

/-- THE SECOND FORM's CARD OF 'linotypelaw25.MarkPlays'. -/
def markPlaysUptoCard : Claim7 := { stood := { row := markPlaysUptoRow, standIns := [], harness := (true, "af3c75ab006795a883a5c592d1e6a3de12c6b9ada0ad9a34dff41b5416797654"), looks := true }, kinds := [], alts := [], laidByText := true, laidKinds := [.sentinel, .sentinel, .sentinel, .sentinel, .sentinel, .sentinel, .sentinel, .sentinel], laidTests := true, laidLooks := .later }
def MarkPlaysUptoCardSaid : Prop := Claim7.holds Tryd.pinned (.plain (OpenSpec.upto markPlaysSpec)) markPlaysUptoCard

/-- THE SECOND FORM's CARD OF 'linotypelaw25.MarkWidens'. -/
def markWidensUptoCard : Claim7 := { stood := { row := markWidensUptoRow, standIns := [], harness := (true, "af3c75ab006795a883a5c592d1e6a3de12c6b9ada0ad9a34dff41b5416797654"), looks := true }, kinds := [], alts := [], laidByText := true, laidKinds := [.sentinel, .sentinel], laidTests := true, laidLooks := .later }
def MarkWidensUptoCardSaid : Prop := Claim7.holds Tryd.pinned (.plain (OpenSpec.upto markWidensSpec)) markWidensUptoCard

/-- THE SECOND FORM's CARD OF 'linotypelaw26.ErasePlays'. -/
def erasePlaysUptoCard : Claim7 := { stood := { row := erasePlaysUptoRow, standIns := [], harness := (true, "af3c75ab006795a883a5c592d1e6a3de12c6b9ada0ad9a34dff41b5416797654"), looks := true }, kinds := [], alts := [], laidByText := true, laidKinds := [.sentinel, .sentinel], laidTests := true, laidLooks := .later }
def ErasePlaysUptoCardSaid : Prop := Claim7.holds Tryd.pinned (.plain (OpenSpec.upto erasePlaysSpec)) erasePlaysUptoCard

/-- THE SECOND FORM's CARD OF 'linotypelaw26.EraseFar'. -/
def eraseFarUptoCard : Claim7 := { stood := { row := eraseFarUptoRow, standIns := [], harness := (true, "af3c75ab006795a883a5c592d1e6a3de12c6b9ada0ad9a34dff41b5416797654"), looks := true }, kinds := [], alts := [], laidByText := true, laidKinds := [.sentinel, .sentinel], laidTests := true, laidLooks := .later }
def EraseFarUptoCardSaid : Prop := Claim7.holds Tryd.pinned (.plain (OpenSpec.upto eraseFarSpec)) eraseFarUptoCard

/-- THE SECOND FORM's CARD OF 'linotypelaw27.ShiftPlays'. -/
def shiftPlaysUptoCard : Claim7 := { stood := { row := shiftPlaysUptoRow, standIns := [], harness := (true, "af3c75ab006795a883a5c592d1e6a3de12c6b9ada0ad9a34dff41b5416797654"), looks := true }, kinds := [], alts := [], laidByText := true, laidKinds := [.sentinel, .sentinel], laidTests := true, laidLooks := .later }
def ShiftPlaysUptoCardSaid : Prop := Claim7.holds Tryd.pinned (.plain (OpenSpec.upto shiftPlaysSpec)) shiftPlaysUptoCard

/-- THE SECOND FORM's CARD OF 'linotypelaw27.ShiftBack'. -/
def shiftBackUptoCard : Claim7 := { stood := { row := shiftBackUptoRow, standIns := [], harness := (true, "af3c75ab006795a883a5c592d1e6a3de12c6b9ada0ad9a34dff41b5416797654"), looks := true }, kinds := [], alts := [], laidByText := true, laidKinds := [.sentinel, .sentinel], laidTests := true, laidLooks := .later }
def ShiftBackUptoCardSaid : Prop := Claim7.holds Tryd.pinned (.plain (OpenSpec.upto shiftBackSpec)) shiftBackUptoCard

/-- THE SECOND FORM's CARD OF 'linotypelaw28.FitResizes'. -/
def fitResizesUptoCard : Claim7 := { stood := { row := fitResizesUptoRow, standIns := [], harness := (true, "af3c75ab006795a883a5c592d1e6a3de12c6b9ada0ad9a34dff41b5416797654"), looks := true }, kinds := [], alts := [], laidByText := true, laidKinds := [.sentinel, .sentinel], laidTests := true, laidLooks := .later }
def FitResizesUptoCardSaid : Prop := Claim7.holds Tryd.pinned (.plain (OpenSpec.upto fitResizesSpec)) fitResizesUptoCard

/-- THE SECOND FORM's CARD OF 'linotypelaw28.FitSplits'. -/
def fitSplitsUptoCard : Claim7 := { stood := { row := fitSplitsUptoRow, standIns := [], harness := (true, "af3c75ab006795a883a5c592d1e6a3de12c6b9ada0ad9a34dff41b5416797654"), looks := true }, kinds := [], alts := [], laidByText := true, laidKinds := [.sentinel, .sentinel], laidTests := true, laidLooks := .later }
def FitSplitsUptoCardSaid : Prop := Claim7.holds Tryd.pinned (.plain (OpenSpec.upto fitSplitsSpec)) fitSplitsUptoCard

/-- THE SECOND FORM's CARD OF 'linotypelaw28.FitJoins'. -/
def fitJoinsUptoCard : Claim7 := { stood := { row := fitJoinsUptoRow, standIns := [], harness := (true, "af3c75ab006795a883a5c592d1e6a3de12c6b9ada0ad9a34dff41b5416797654"), looks := true }, kinds := [], alts := [], laidByText := true, laidKinds := [.sentinel, .sentinel], laidTests := true, laidLooks := .later }
def FitJoinsUptoCardSaid : Prop := Claim7.holds Tryd.pinned (.plain (OpenSpec.upto fitJoinsSpec)) fitJoinsUptoCard

/-- THE SECOND FORM's CARD OF 'linotypelaw30.RowtextTells'. -/
def rowtextTellsUptoCard : Claim7 := { stood := { row := rowtextTellsUptoRow, standIns := [], harness := (true, "af3c75ab006795a883a5c592d1e6a3de12c6b9ada0ad9a34dff41b5416797654"), looks := true }, kinds := [], alts := [], laidByText := true, laidKinds := [.sentinel, .sentinel], laidTests := true, laidLooks := .later }
def RowtextTellsUptoCardSaid : Prop := Claim7.holds Tryd.pinned (.plain (OpenSpec.upto rowtextTellsSpec)) rowtextTellsUptoCard

/-- THE SECOND FORM's CARD OF 'linotypelaw32.GridMakes'. -/
def gridMakesUptoCard : Claim7 := { stood := { row := gridMakesUptoRow, standIns := [], harness := (true, "af3c75ab006795a883a5c592d1e6a3de12c6b9ada0ad9a34dff41b5416797654"), looks := true }, kinds := [], alts := [], laidByText := true, laidKinds := [.handle, .sentinel, .sentinel, .sentinel, .sentinel, .sentinel, .sentinel, .sentinel, .sentinel], laidTests := true, laidLooks := .later }
def GridMakesUptoCardSaid : Prop := Claim7.holds Tryd.pinned (.plain (OpenSpec.upto gridMakesSpec)) gridMakesUptoCard
end Rows
end Go.Proofs.YtomfclkldmmmgaaDoor
