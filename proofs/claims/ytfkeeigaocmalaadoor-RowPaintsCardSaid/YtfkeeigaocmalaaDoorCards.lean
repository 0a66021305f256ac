/-
  DERIVED. GIVEN WITH THE SEED: THE CARDS: each row of YtfkeeigaocmalaaDoorRows.lean that lists a variable, with what it lists TIED to the program's text (the seventh form; the later family's looks); each row that meets fmt, with fmt's text TOLD by the authors' own Lean function (tested against real Go, not proved from fmt's source: count such statements apart). THE CARD IS WHAT COUNTS. Prove the row's statement (the work); the ties are given (YtfkeeigaocmalaaDoorTie.lean); close each card by the builder's one call (the guide's Derived/Test/ToyasCard.lean, 'card_holds'). Laid BY PROGRAM, IN A SANDBOX (cutbox-door.mjs). By AI agents, Wed Nov 11 2026. No macro, syntax, notation, axiom, sorry.
-/
import Derived.Test.YtfkeeigaocmalaaDoorRows
import GoSem.ClaimSeven
namespace Go.Proofs.YtfkeeigaocmalaaDoor
namespace Rows

/-- THE TIED CARD OF 'linotypelaw24.RowMakes'. -/
def rowMakesCard : Claim7 := { stood := { row := rowMakesRow, standIns := [], harness := (true, "b73d17e5a0356d935003d382236cc6b232cc04c856624dd41cfcdadffc3e2d53"), looks := true }, kinds := [], alts := [], laidByText := true, laidKinds := [.sentinel, .sentinel, .sentinel, .sentinel, .sentinel, .sentinel, .sentinel, .sentinel], laidTests := true, laidLooks := .later }
def RowMakesCardSaid : Prop := Claim7.holds Tryd.pinned (.plain (OpenSpec.ofChange rowMakesSpec)) rowMakesCard

/-- THE TIED CARD OF 'linotypelaw24.RowPaints'. -/
def rowPaintsCard : Claim7 := { stood := { row := rowPaintsRow, standIns := [], harness := (true, "b73d17e5a0356d935003d382236cc6b232cc04c856624dd41cfcdadffc3e2d53"), looks := true }, kinds := [], alts := [], laidByText := true, laidKinds := [.sentinel, .sentinel, .sentinel, .sentinel, .sentinel, .sentinel, .sentinel, .sentinel], laidTests := true, laidLooks := .later }
def RowPaintsCardSaid : Prop := Claim7.holds Tryd.pinned (.plain (OpenSpec.ofChange rowPaintsSpec)) rowPaintsCard

/-- THE TIED CARD OF 'linotypelaw24.RowOwn'. -/
def rowOwnCard : Claim7 := { stood := { row := rowOwnRow, standIns := [], harness := (true, "b73d17e5a0356d935003d382236cc6b232cc04c856624dd41cfcdadffc3e2d53"), looks := true }, kinds := [], alts := [], laidByText := true, laidKinds := [.sentinel, .sentinel], laidTests := true, laidLooks := .later }
def RowOwnCardSaid : Prop := Claim7.holds Tryd.pinned (.plain (OpenSpec.ofChange rowOwnSpec)) rowOwnCard

/-- THE TIED CARD OF 'linotypelaw25.MarkPlays'. -/
def markPlaysCard : Claim7 := { stood := { row := markPlaysRow, standIns := [], harness := (true, "b73d17e5a0356d935003d382236cc6b232cc04c856624dd41cfcdadffc3e2d53"), looks := true }, kinds := [], alts := [], laidByText := true, laidKinds := [.sentinel, .sentinel, .sentinel, .sentinel, .sentinel, .sentinel, .sentinel, .sentinel], laidTests := true, laidLooks := .later }
def MarkPlaysCardSaid : Prop := Claim7.holds Tryd.pinned (.plain (OpenSpec.ofChange markPlaysSpec)) markPlaysCard

/-- THE TIED CARD OF 'linotypelaw26.ErasePlays'. -/
def erasePlaysCard : Claim7 := { stood := { row := erasePlaysRow, standIns := [], harness := (true, "b73d17e5a0356d935003d382236cc6b232cc04c856624dd41cfcdadffc3e2d53"), looks := true }, kinds := [], alts := [], laidByText := true, laidKinds := [.sentinel, .sentinel], laidTests := true, laidLooks := .later }
def ErasePlaysCardSaid : Prop := Claim7.holds Tryd.pinned (.plain (OpenSpec.ofChange erasePlaysSpec)) erasePlaysCard

/-- THE TIED CARD OF 'linotypelaw27.ShiftPlays'. -/
def shiftPlaysCard : Claim7 := { stood := { row := shiftPlaysRow, standIns := [], harness := (true, "b73d17e5a0356d935003d382236cc6b232cc04c856624dd41cfcdadffc3e2d53"), looks := true }, kinds := [], alts := [], laidByText := true, laidKinds := [.sentinel, .sentinel], laidTests := true, laidLooks := .later }
def ShiftPlaysCardSaid : Prop := Claim7.holds Tryd.pinned (.plain (OpenSpec.ofChange shiftPlaysSpec)) shiftPlaysCard

/-- THE SECOND FORM's CARD OF 'linotypelaw24.RowMakes'. -/
def rowMakesUptoCard : Claim7 := { stood := { row := rowMakesUptoRow, standIns := [], harness := (true, "b73d17e5a0356d935003d382236cc6b232cc04c856624dd41cfcdadffc3e2d53"), looks := true }, kinds := [], alts := [], laidByText := true, laidKinds := [.sentinel, .sentinel, .sentinel, .sentinel, .sentinel, .sentinel, .sentinel, .sentinel], laidTests := true, laidLooks := .later }
def RowMakesUptoCardSaid : Prop := Claim7.holds Tryd.pinned (.plain (OpenSpec.upto rowMakesSpec)) rowMakesUptoCard

/-- THE SECOND FORM's CARD OF 'linotypelaw24.RowPaints'. -/
def rowPaintsUptoCard : Claim7 := { stood := { row := rowPaintsUptoRow, standIns := [], harness := (true, "b73d17e5a0356d935003d382236cc6b232cc04c856624dd41cfcdadffc3e2d53"), looks := true }, kinds := [], alts := [], laidByText := true, laidKinds := [.sentinel, .sentinel, .sentinel, .sentinel, .sentinel, .sentinel, .sentinel, .sentinel], laidTests := true, laidLooks := .later }
def RowPaintsUptoCardSaid : Prop := Claim7.holds Tryd.pinned (.plain (OpenSpec.upto rowPaintsSpec)) rowPaintsUptoCard

/-- THE SECOND FORM's CARD OF 'linotypelaw24.RowOwn'. -/
def rowOwnUptoCard : Claim7 := { stood := { row := rowOwnUptoRow, standIns := [], harness := (true, "b73d17e5a0356d935003d382236cc6b232cc04c856624dd41cfcdadffc3e2d53"), looks := true }, kinds := [], alts := [], laidByText := true, laidKinds := [.sentinel, .sentinel], laidTests := true, laidLooks := .later }
def RowOwnUptoCardSaid : Prop := Claim7.holds Tryd.pinned (.plain (OpenSpec.upto rowOwnSpec)) rowOwnUptoCard

/-- THE SECOND FORM's CARD OF 'linotypelaw25.MarkPlays'. -/
def markPlaysUptoCard : Claim7 := { stood := { row := markPlaysUptoRow, standIns := [], harness := (true, "b73d17e5a0356d935003d382236cc6b232cc04c856624dd41cfcdadffc3e2d53"), looks := true }, kinds := [], alts := [], laidByText := true, laidKinds := [.sentinel, .sentinel, .sentinel, .sentinel, .sentinel, .sentinel, .sentinel, .sentinel], laidTests := true, laidLooks := .later }
def MarkPlaysUptoCardSaid : Prop := Claim7.holds Tryd.pinned (.plain (OpenSpec.upto markPlaysSpec)) markPlaysUptoCard

/-- THE SECOND FORM's CARD OF 'linotypelaw26.ErasePlays'. -/
def erasePlaysUptoCard : Claim7 := { stood := { row := erasePlaysUptoRow, standIns := [], harness := (true, "b73d17e5a0356d935003d382236cc6b232cc04c856624dd41cfcdadffc3e2d53"), looks := true }, kinds := [], alts := [], laidByText := true, laidKinds := [.sentinel, .sentinel], laidTests := true, laidLooks := .later }
def ErasePlaysUptoCardSaid : Prop := Claim7.holds Tryd.pinned (.plain (OpenSpec.upto erasePlaysSpec)) erasePlaysUptoCard

/-- THE SECOND FORM's CARD OF 'linotypelaw27.ShiftPlays'. -/
def shiftPlaysUptoCard : Claim7 := { stood := { row := shiftPlaysUptoRow, standIns := [], harness := (true, "b73d17e5a0356d935003d382236cc6b232cc04c856624dd41cfcdadffc3e2d53"), looks := true }, kinds := [], alts := [], laidByText := true, laidKinds := [.sentinel, .sentinel], laidTests := true, laidLooks := .later }
def ShiftPlaysUptoCardSaid : Prop := Claim7.holds Tryd.pinned (.plain (OpenSpec.upto shiftPlaysSpec)) shiftPlaysUptoCard
end Rows
end Go.Proofs.YtfkeeigaocmalaaDoor
