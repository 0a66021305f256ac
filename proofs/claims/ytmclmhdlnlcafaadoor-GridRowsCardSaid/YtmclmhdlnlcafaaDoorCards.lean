/-
  DERIVED. GIVEN WITH THE SEED: THE CARDS: each row of YtmclmhdlnlcafaaDoorRows.lean that lists a variable, with what it lists TIED to the program's text (the seventh form; the later family's looks); each row that meets fmt, with fmt's text TOLD by the authors' own Lean function (tested against real Go, not proved from fmt's source: count such statements apart). THE CARD IS WHAT COUNTS. Prove the row's statement (the work); the ties are given (YtmclmhdlnlcafaaDoorTie.lean); close each card by the builder's one call (the guide's Derived/Test/ToyasCard.lean, 'card_holds'). Laid BY PROGRAM, IN A SANDBOX (cutbox-door.mjs). By AI agents, Wed Nov 11 2026. No macro, syntax, notation, axiom, sorry.
-/
import Derived.Test.YtmclmhdlnlcafaaDoorRows
import GoSem.ClaimSeven
namespace Go.Proofs.YtmclmhdlnlcafaaDoor
namespace Rows

/-- THE TIED CARD OF 'linotypelaw30.RowtextTells'. -/
def rowtextTellsCard : Claim7 := { stood := { row := rowtextTellsRow, standIns := [], harness := (true, "17cb3c909220779ab97dbf4b1ad644363bcc1560c6925d1faa34bc0b1740cd31"), looks := true }, kinds := [], alts := [], laidByText := true, laidKinds := [.sentinel, .sentinel], laidTests := true, laidLooks := .later }
def RowtextTellsCardSaid : Prop := Claim7.holds Tryd.pinned (.plain (OpenSpec.ofChange rowtextTellsSpec)) rowtextTellsCard

/-- THE TIED CARD OF 'linotypelaw30.RowtextFinds'. -/
def rowtextFindsCard : Claim7 := { stood := { row := rowtextFindsRow, standIns := [], harness := (true, "17cb3c909220779ab97dbf4b1ad644363bcc1560c6925d1faa34bc0b1740cd31"), looks := true }, kinds := [], alts := [], laidByText := true, laidKinds := [.sentinel, .sentinel], laidTests := true, laidLooks := .later }
def RowtextFindsCardSaid : Prop := Claim7.holds Tryd.pinned (.plain (OpenSpec.ofChange rowtextFindsSpec)) rowtextFindsCard

/-- THE TIED CARD OF 'linotypelaw30.RowtextAlike'. -/
def rowtextAlikeCard : Claim7 := { stood := { row := rowtextAlikeRow, standIns := [], harness := (true, "17cb3c909220779ab97dbf4b1ad644363bcc1560c6925d1faa34bc0b1740cd31"), looks := true }, kinds := [], alts := [], laidByText := true, laidKinds := [.sentinel, .sentinel], laidTests := true, laidLooks := .later }
def RowtextAlikeCardSaid : Prop := Claim7.holds Tryd.pinned (.plain (OpenSpec.ofChange rowtextAlikeSpec)) rowtextAlikeCard

/-- THE TIED CARD OF 'linotypelaw29.ItemsRead'. -/
def itemsReadCard : Claim7 := { stood := { row := itemsReadRow, standIns := [], harness := (true, "17cb3c909220779ab97dbf4b1ad644363bcc1560c6925d1faa34bc0b1740cd31"), looks := true }, kinds := [], alts := [], laidByText := true, laidKinds := [.sentinel, .sentinel, .sentinel, .sentinel, .sentinel, .sentinel, .sentinel, .sentinel], laidTests := true, laidLooks := .later }
def ItemsReadCardSaid : Prop := Claim7.holds Tryd.pinned (.plain (OpenSpec.ofChange itemsReadSpec)) itemsReadCard

/-- THE TIED CARD OF 'linotypelaw29.ItemsMake'. -/
def itemsMakeCard : Claim7 := { stood := { row := itemsMakeRow, standIns := [], harness := (true, "17cb3c909220779ab97dbf4b1ad644363bcc1560c6925d1faa34bc0b1740cd31"), looks := true }, kinds := [], alts := [], laidByText := true, laidKinds := [.handle, .sentinel, .sentinel, .sentinel, .sentinel, .sentinel, .sentinel, .sentinel, .sentinel], laidTests := true, laidLooks := .later }
def ItemsMakeCardSaid : Prop := Claim7.holds Tryd.pinned (.plain (OpenSpec.ofChange itemsMakeSpec)) itemsMakeCard

/-- THE TIED CARD OF 'linotypelaw24.RowOwn'. -/
def rowOwnCard : Claim7 := { stood := { row := rowOwnRow, standIns := [], harness := (true, "17cb3c909220779ab97dbf4b1ad644363bcc1560c6925d1faa34bc0b1740cd31"), looks := true }, kinds := [], alts := [], laidByText := true, laidKinds := [.sentinel, .sentinel], laidTests := true, laidLooks := .later }
def RowOwnCardSaid : Prop := Claim7.holds Tryd.pinned (.plain (OpenSpec.ofChange rowOwnSpec)) rowOwnCard

/-- THE TIED CARD OF 'linotypelaw32.GridMakes'. -/
def gridMakesCard : Claim7 := { stood := { row := gridMakesRow, standIns := [], harness := (true, "17cb3c909220779ab97dbf4b1ad644363bcc1560c6925d1faa34bc0b1740cd31"), looks := true }, kinds := [], alts := [], laidByText := true, laidKinds := [.handle, .sentinel, .sentinel, .sentinel, .sentinel, .sentinel, .sentinel, .sentinel, .sentinel], laidTests := true, laidLooks := .later }
def GridMakesCardSaid : Prop := Claim7.holds Tryd.pinned (.plain (OpenSpec.ofChange gridMakesSpec)) gridMakesCard

/-- THE TIED CARD OF 'linotypelaw32.GridRows'. -/
def gridRowsCard : Claim7 := { stood := { row := gridRowsRow, standIns := [], harness := (true, "17cb3c909220779ab97dbf4b1ad644363bcc1560c6925d1faa34bc0b1740cd31"), looks := true }, kinds := [], alts := [], laidByText := true, laidKinds := [.sentinel, .sentinel], laidTests := true, laidLooks := .later }
def GridRowsCardSaid : Prop := Claim7.holds Tryd.pinned (.plain (OpenSpec.ofChange gridRowsSpec)) gridRowsCard

/-- THE TIED CARD OF 'linotypelaw33.ScrollPlays'. -/
def scrollPlaysCard : Claim7 := { stood := { row := scrollPlaysRow, standIns := [], harness := (true, "17cb3c909220779ab97dbf4b1ad644363bcc1560c6925d1faa34bc0b1740cd31"), looks := true }, kinds := [], alts := [], laidByText := true, laidKinds := [.sentinel, .sentinel], laidTests := true, laidLooks := .later }
def ScrollPlaysCardSaid : Prop := Claim7.holds Tryd.pinned (.plain (OpenSpec.ofChange scrollPlaysSpec)) scrollPlaysCard

/-- THE TIED CARD OF 'linotypelaw33.ScrollFar'. -/
def scrollFarCard : Claim7 := { stood := { row := scrollFarRow, standIns := [], harness := (true, "17cb3c909220779ab97dbf4b1ad644363bcc1560c6925d1faa34bc0b1740cd31"), looks := true }, kinds := [], alts := [], laidByText := true, laidKinds := [.sentinel, .sentinel], laidTests := true, laidLooks := .later }
def ScrollFarCardSaid : Prop := Claim7.holds Tryd.pinned (.plain (OpenSpec.ofChange scrollFarSpec)) scrollFarCard

/-- THE SECOND FORM's CARD OF 'linotypelaw30.RowtextTells'. -/
def rowtextTellsUptoCard : Claim7 := { stood := { row := rowtextTellsUptoRow, standIns := [], harness := (true, "17cb3c909220779ab97dbf4b1ad644363bcc1560c6925d1faa34bc0b1740cd31"), looks := true }, kinds := [], alts := [], laidByText := true, laidKinds := [.sentinel, .sentinel], laidTests := true, laidLooks := .later }
def RowtextTellsUptoCardSaid : Prop := Claim7.holds Tryd.pinned (.plain (OpenSpec.upto rowtextTellsSpec)) rowtextTellsUptoCard

/-- THE SECOND FORM's CARD OF 'linotypelaw30.RowtextFinds'. -/
def rowtextFindsUptoCard : Claim7 := { stood := { row := rowtextFindsUptoRow, standIns := [], harness := (true, "17cb3c909220779ab97dbf4b1ad644363bcc1560c6925d1faa34bc0b1740cd31"), looks := true }, kinds := [], alts := [], laidByText := true, laidKinds := [.sentinel, .sentinel], laidTests := true, laidLooks := .later }
def RowtextFindsUptoCardSaid : Prop := Claim7.holds Tryd.pinned (.plain (OpenSpec.upto rowtextFindsSpec)) rowtextFindsUptoCard

/-- THE SECOND FORM's CARD OF 'linotypelaw30.RowtextAlike'. -/
def rowtextAlikeUptoCard : Claim7 := { stood := { row := rowtextAlikeUptoRow, standIns := [], harness := (true, "17cb3c909220779ab97dbf4b1ad644363bcc1560c6925d1faa34bc0b1740cd31"), looks := true }, kinds := [], alts := [], laidByText := true, laidKinds := [.sentinel, .sentinel], laidTests := true, laidLooks := .later }
def RowtextAlikeUptoCardSaid : Prop := Claim7.holds Tryd.pinned (.plain (OpenSpec.upto rowtextAlikeSpec)) rowtextAlikeUptoCard

/-- THE SECOND FORM's CARD OF 'linotypelaw29.ItemsRead'. -/
def itemsReadUptoCard : Claim7 := { stood := { row := itemsReadUptoRow, standIns := [], harness := (true, "17cb3c909220779ab97dbf4b1ad644363bcc1560c6925d1faa34bc0b1740cd31"), looks := true }, kinds := [], alts := [], laidByText := true, laidKinds := [.sentinel, .sentinel, .sentinel, .sentinel, .sentinel, .sentinel, .sentinel, .sentinel], laidTests := true, laidLooks := .later }
def ItemsReadUptoCardSaid : Prop := Claim7.holds Tryd.pinned (.plain (OpenSpec.upto itemsReadSpec)) itemsReadUptoCard

/-- THE SECOND FORM's CARD OF 'linotypelaw29.ItemsMake'. -/
def itemsMakeUptoCard : Claim7 := { stood := { row := itemsMakeUptoRow, standIns := [], harness := (true, "17cb3c909220779ab97dbf4b1ad644363bcc1560c6925d1faa34bc0b1740cd31"), looks := true }, kinds := [], alts := [], laidByText := true, laidKinds := [.handle, .sentinel, .sentinel, .sentinel, .sentinel, .sentinel, .sentinel, .sentinel, .sentinel], laidTests := true, laidLooks := .later }
def ItemsMakeUptoCardSaid : Prop := Claim7.holds Tryd.pinned (.plain (OpenSpec.upto itemsMakeSpec)) itemsMakeUptoCard

/-- THE SECOND FORM's CARD OF 'linotypelaw24.RowOwn'. -/
def rowOwnUptoCard : Claim7 := { stood := { row := rowOwnUptoRow, standIns := [], harness := (true, "17cb3c909220779ab97dbf4b1ad644363bcc1560c6925d1faa34bc0b1740cd31"), looks := true }, kinds := [], alts := [], laidByText := true, laidKinds := [.sentinel, .sentinel], laidTests := true, laidLooks := .later }
def RowOwnUptoCardSaid : Prop := Claim7.holds Tryd.pinned (.plain (OpenSpec.upto rowOwnSpec)) rowOwnUptoCard

/-- THE SECOND FORM's CARD OF 'linotypelaw32.GridMakes'. -/
def gridMakesUptoCard : Claim7 := { stood := { row := gridMakesUptoRow, standIns := [], harness := (true, "17cb3c909220779ab97dbf4b1ad644363bcc1560c6925d1faa34bc0b1740cd31"), looks := true }, kinds := [], alts := [], laidByText := true, laidKinds := [.handle, .sentinel, .sentinel, .sentinel, .sentinel, .sentinel, .sentinel, .sentinel, .sentinel], laidTests := true, laidLooks := .later }
def GridMakesUptoCardSaid : Prop := Claim7.holds Tryd.pinned (.plain (OpenSpec.upto gridMakesSpec)) gridMakesUptoCard

/-- THE SECOND FORM's CARD OF 'linotypelaw32.GridRows'. -/
def gridRowsUptoCard : Claim7 := { stood := { row := gridRowsUptoRow, standIns := [], harness := (true, "17cb3c909220779ab97dbf4b1ad644363bcc1560c6925d1faa34bc0b1740cd31"), looks := true }, kinds := [], alts := [], laidByText := true, laidKinds := [.sentinel, .sentinel], laidTests := true, laidLooks := .later }
def GridRowsUptoCardSaid : Prop := Claim7.holds Tryd.pinned (.plain (OpenSpec.upto gridRowsSpec)) gridRowsUptoCard

/-- THE SECOND FORM's CARD OF 'linotypelaw33.ScrollPlays'. -/
def scrollPlaysUptoCard : Claim7 := { stood := { row := scrollPlaysUptoRow, standIns := [], harness := (true, "17cb3c909220779ab97dbf4b1ad644363bcc1560c6925d1faa34bc0b1740cd31"), looks := true }, kinds := [], alts := [], laidByText := true, laidKinds := [.sentinel, .sentinel], laidTests := true, laidLooks := .later }
def ScrollPlaysUptoCardSaid : Prop := Claim7.holds Tryd.pinned (.plain (OpenSpec.upto scrollPlaysSpec)) scrollPlaysUptoCard

/-- THE SECOND FORM's CARD OF 'linotypelaw33.ScrollFar'. -/
def scrollFarUptoCard : Claim7 := { stood := { row := scrollFarUptoRow, standIns := [], harness := (true, "17cb3c909220779ab97dbf4b1ad644363bcc1560c6925d1faa34bc0b1740cd31"), looks := true }, kinds := [], alts := [], laidByText := true, laidKinds := [.sentinel, .sentinel], laidTests := true, laidLooks := .later }
def ScrollFarUptoCardSaid : Prop := Claim7.holds Tryd.pinned (.plain (OpenSpec.upto scrollFarSpec)) scrollFarUptoCard
end Rows
end Go.Proofs.YtmclmhdlnlcafaaDoor
