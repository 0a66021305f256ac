/-
  DERIVED. GIVEN WITH THE SEED: THE CARDS: each row of YtgndolgihplngaaDoorRows.lean that lists a variable, with what it lists TIED to the program's text (the seventh form; the later family's looks); each row that meets fmt, with fmt's text TOLD by the authors' own Lean function (tested against real Go, not proved from fmt's source: count such statements apart). THE CARD IS WHAT COUNTS. Prove the row's statement (the work); the ties are given (YtgndolgihplngaaDoorTie.lean); close each card by the builder's one call (the guide's Derived/Test/ToyasCard.lean, 'card_holds'). Laid BY PROGRAM, IN A SANDBOX (cutbox-door.mjs). By AI agents, Wed Nov 11 2026. No macro, syntax, notation, axiom, sorry.
-/
import Derived.Test.YtgndolgihplngaaDoorRows
import GoSem.ClaimSeven
namespace Go.Proofs.YtgndolgihplngaaDoor
namespace Rows

/-- THE TIED CARD OF 'linotypelaw39.SizeTurns'. -/
def sizeTurnsCard : Claim7 := { stood := { row := sizeTurnsRow, standIns := [], harness := (true, "25c849146d1e995343b1d60c1d998805384d11ee0058840635921fc1ba003906"), looks := true }, kinds := [], alts := [], laidByText := true, laidKinds := [.sentinel, .sentinel], laidTests := true, laidLooks := .later }
def SizeTurnsCardSaid : Prop := Claim7.holds Tryd.pinned (.plain (OpenSpec.ofChange sizeTurnsSpec)) sizeTurnsCard

/-- THE TIED CARD OF 'linotypelaw38.EditSound'. -/
def editSoundCard : Claim7 := { stood := { row := editSoundRow, standIns := [], harness := (true, "25c849146d1e995343b1d60c1d998805384d11ee0058840635921fc1ba003906"), looks := true }, kinds := [], alts := [], laidByText := true, laidKinds := [.sentinel, .sentinel, .sentinel, .sentinel, .sentinel, .sentinel, .sentinel, .sentinel], laidTests := true, laidLooks := .later }
def EditSoundCardSaid : Prop := Claim7.holds Tryd.pinned (.plain (OpenSpec.ofChange editSoundSpec)) editSoundCard

/-- THE TIED CARD OF 'linotypelaw36.CtrlDoes'. -/
def ctrlDoesCard : Claim7 := { stood := { row := ctrlDoesRow, standIns := [], harness := (true, "25c849146d1e995343b1d60c1d998805384d11ee0058840635921fc1ba003906"), looks := true }, kinds := [], alts := [], laidByText := true, laidKinds := [.sentinel, .sentinel], laidTests := true, laidLooks := .later }
def CtrlDoesCardSaid : Prop := Claim7.holds Tryd.pinned (.plain (OpenSpec.ofChange ctrlDoesSpec)) ctrlDoesCard

/-- THE TIED CARD OF 'linotypelaw35.WidenNone'. -/
def widenNoneCard : Claim7 := { stood := { row := widenNoneRow, standIns := [], harness := (true, "25c849146d1e995343b1d60c1d998805384d11ee0058840635921fc1ba003906"), looks := true }, kinds := [], alts := [], laidByText := true, laidKinds := [.sentinel, .sentinel], laidTests := true, laidLooks := .later }
def WidenNoneCardSaid : Prop := Claim7.holds Tryd.pinned (.plain (OpenSpec.ofChange widenNoneSpec)) widenNoneCard

/-- THE TIED CARD OF 'linotypelaw24.RowOwn'. -/
def rowOwnCard : Claim7 := { stood := { row := rowOwnRow, standIns := [], harness := (true, "25c849146d1e995343b1d60c1d998805384d11ee0058840635921fc1ba003906"), looks := true }, kinds := [], alts := [], laidByText := true, laidKinds := [.sentinel, .sentinel], laidTests := true, laidLooks := .later }
def RowOwnCardSaid : Prop := Claim7.holds Tryd.pinned (.plain (OpenSpec.ofChange rowOwnSpec)) rowOwnCard

/-- THE SECOND FORM's CARD OF 'linotypelaw39.SizeTurns'. -/
def sizeTurnsUptoCard : Claim7 := { stood := { row := sizeTurnsUptoRow, standIns := [], harness := (true, "25c849146d1e995343b1d60c1d998805384d11ee0058840635921fc1ba003906"), looks := true }, kinds := [], alts := [], laidByText := true, laidKinds := [.sentinel, .sentinel], laidTests := true, laidLooks := .later }
def SizeTurnsUptoCardSaid : Prop := Claim7.holds Tryd.pinned (.plain (OpenSpec.upto sizeTurnsSpec)) sizeTurnsUptoCard

/-- THE SECOND FORM's CARD OF 'linotypelaw38.EditSound'. -/
def editSoundUptoCard : Claim7 := { stood := { row := editSoundUptoRow, standIns := [], harness := (true, "25c849146d1e995343b1d60c1d998805384d11ee0058840635921fc1ba003906"), looks := true }, kinds := [], alts := [], laidByText := true, laidKinds := [.sentinel, .sentinel, .sentinel, .sentinel, .sentinel, .sentinel, .sentinel, .sentinel], laidTests := true, laidLooks := .later }
def EditSoundUptoCardSaid : Prop := Claim7.holds Tryd.pinned (.plain (OpenSpec.upto editSoundSpec)) editSoundUptoCard

/-- THE SECOND FORM's CARD OF 'linotypelaw36.CtrlDoes'. -/
def ctrlDoesUptoCard : Claim7 := { stood := { row := ctrlDoesUptoRow, standIns := [], harness := (true, "25c849146d1e995343b1d60c1d998805384d11ee0058840635921fc1ba003906"), looks := true }, kinds := [], alts := [], laidByText := true, laidKinds := [.sentinel, .sentinel], laidTests := true, laidLooks := .later }
def CtrlDoesUptoCardSaid : Prop := Claim7.holds Tryd.pinned (.plain (OpenSpec.upto ctrlDoesSpec)) ctrlDoesUptoCard

/-- THE SECOND FORM's CARD OF 'linotypelaw35.WidenNone'. -/
def widenNoneUptoCard : Claim7 := { stood := { row := widenNoneUptoRow, standIns := [], harness := (true, "25c849146d1e995343b1d60c1d998805384d11ee0058840635921fc1ba003906"), looks := true }, kinds := [], alts := [], laidByText := true, laidKinds := [.sentinel, .sentinel], laidTests := true, laidLooks := .later }
def WidenNoneUptoCardSaid : Prop := Claim7.holds Tryd.pinned (.plain (OpenSpec.upto widenNoneSpec)) widenNoneUptoCard

/-- THE SECOND FORM's CARD OF 'linotypelaw24.RowOwn'. -/
def rowOwnUptoCard : Claim7 := { stood := { row := rowOwnUptoRow, standIns := [], harness := (true, "25c849146d1e995343b1d60c1d998805384d11ee0058840635921fc1ba003906"), looks := true }, kinds := [], alts := [], laidByText := true, laidKinds := [.sentinel, .sentinel], laidTests := true, laidLooks := .later }
def RowOwnUptoCardSaid : Prop := Claim7.holds Tryd.pinned (.plain (OpenSpec.upto rowOwnSpec)) rowOwnUptoCard
end Rows
end Go.Proofs.YtgndolgihplngaaDoor
