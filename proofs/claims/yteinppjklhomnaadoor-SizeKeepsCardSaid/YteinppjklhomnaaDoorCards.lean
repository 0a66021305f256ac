/-
  DERIVED. GIVEN WITH THE SEED: THE CARDS: each row of YteinppjklhomnaaDoorRows.lean that lists a variable, with what it lists TIED to the program's text (the seventh form; the later family's looks); each row that meets fmt, with fmt's text TOLD by the authors' own Lean function (tested against real Go, not proved from fmt's source: count such statements apart). THE CARD IS WHAT COUNTS. Prove the row's statement (the work); the ties are given (YteinppjklhomnaaDoorTie.lean); close each card by the builder's one call (the guide's Derived/Test/ToyasCard.lean, 'card_holds'). Laid BY PROGRAM, IN A SANDBOX (cutbox-door.mjs). By AI agents, Wed Nov 11 2026. No macro, syntax, notation, axiom, sorry.
-/
import Derived.Test.YteinppjklhomnaaDoorRows
import GoSem.ClaimSeven
namespace Go.Proofs.YteinppjklhomnaaDoor
namespace Rows

/-- THE TIED CARD OF 'linotypelaw34.PlacePlays'. -/
def placePlaysCard : Claim7 := { stood := { row := placePlaysRow, standIns := [], harness := (true, "2ba55ab5541d68f250d235e5c53d471b4a90ed9149a15ab7bc1ebd2b53297bc7"), looks := true }, kinds := [], alts := [], laidByText := true, laidKinds := [.sentinel, .sentinel], laidTests := true, laidLooks := .later }
def PlacePlaysCardSaid : Prop := Claim7.holds Tryd.pinned (.plain (OpenSpec.ofChange placePlaysSpec)) placePlaysCard

/-- THE TIED CARD OF 'linotypelaw34.PlaceSound'. -/
def placeSoundCard : Claim7 := { stood := { row := placeSoundRow, standIns := [], harness := (true, "2ba55ab5541d68f250d235e5c53d471b4a90ed9149a15ab7bc1ebd2b53297bc7"), looks := true }, kinds := [], alts := [], laidByText := true, laidKinds := [.sentinel, .sentinel], laidTests := true, laidLooks := .later }
def PlaceSoundCardSaid : Prop := Claim7.holds Tryd.pinned (.plain (OpenSpec.ofChange placeSoundSpec)) placeSoundCard

/-- THE TIED CARD OF 'linotypelaw35.WidenNone'. -/
def widenNoneCard : Claim7 := { stood := { row := widenNoneRow, standIns := [], harness := (true, "2ba55ab5541d68f250d235e5c53d471b4a90ed9149a15ab7bc1ebd2b53297bc7"), looks := true }, kinds := [], alts := [], laidByText := true, laidKinds := [.sentinel, .sentinel], laidTests := true, laidLooks := .later }
def WidenNoneCardSaid : Prop := Claim7.holds Tryd.pinned (.plain (OpenSpec.ofChange widenNoneSpec)) widenNoneCard

/-- THE TIED CARD OF 'linotypelaw38.EditSound'. -/
def editSoundCard : Claim7 := { stood := { row := editSoundRow, standIns := [], harness := (true, "2ba55ab5541d68f250d235e5c53d471b4a90ed9149a15ab7bc1ebd2b53297bc7"), looks := true }, kinds := [], alts := [], laidByText := true, laidKinds := [.sentinel, .sentinel, .sentinel, .sentinel, .sentinel, .sentinel, .sentinel, .sentinel], laidTests := true, laidLooks := .later }
def EditSoundCardSaid : Prop := Claim7.holds Tryd.pinned (.plain (OpenSpec.ofChange editSoundSpec)) editSoundCard

/-- THE TIED CARD OF 'linotypelaw39.SizeTurns'. -/
def sizeTurnsCard : Claim7 := { stood := { row := sizeTurnsRow, standIns := [], harness := (true, "2ba55ab5541d68f250d235e5c53d471b4a90ed9149a15ab7bc1ebd2b53297bc7"), looks := true }, kinds := [], alts := [], laidByText := true, laidKinds := [.sentinel, .sentinel], laidTests := true, laidLooks := .later }
def SizeTurnsCardSaid : Prop := Claim7.holds Tryd.pinned (.plain (OpenSpec.ofChange sizeTurnsSpec)) sizeTurnsCard

/-- THE TIED CARD OF 'linotypelaw39.SizeKeeps'. -/
def sizeKeepsCard : Claim7 := { stood := { row := sizeKeepsRow, standIns := [], harness := (true, "2ba55ab5541d68f250d235e5c53d471b4a90ed9149a15ab7bc1ebd2b53297bc7"), looks := true }, kinds := [], alts := [], laidByText := true, laidKinds := [.sentinel, .sentinel], laidTests := true, laidLooks := .later }
def SizeKeepsCardSaid : Prop := Claim7.holds Tryd.pinned (.plain (OpenSpec.ofChange sizeKeepsSpec)) sizeKeepsCard

/-- THE TIED CARD OF 'linotypelaw24.RowOwn'. -/
def rowOwnCard : Claim7 := { stood := { row := rowOwnRow, standIns := [], harness := (true, "2ba55ab5541d68f250d235e5c53d471b4a90ed9149a15ab7bc1ebd2b53297bc7"), looks := true }, kinds := [], alts := [], laidByText := true, laidKinds := [.sentinel, .sentinel], laidTests := true, laidLooks := .later }
def RowOwnCardSaid : Prop := Claim7.holds Tryd.pinned (.plain (OpenSpec.ofChange rowOwnSpec)) rowOwnCard

/-- THE SECOND FORM's CARD OF 'linotypelaw34.PlacePlays'. -/
def placePlaysUptoCard : Claim7 := { stood := { row := placePlaysUptoRow, standIns := [], harness := (true, "2ba55ab5541d68f250d235e5c53d471b4a90ed9149a15ab7bc1ebd2b53297bc7"), looks := true }, kinds := [], alts := [], laidByText := true, laidKinds := [.sentinel, .sentinel], laidTests := true, laidLooks := .later }
def PlacePlaysUptoCardSaid : Prop := Claim7.holds Tryd.pinned (.plain (OpenSpec.upto placePlaysSpec)) placePlaysUptoCard

/-- THE SECOND FORM's CARD OF 'linotypelaw34.PlaceSound'. -/
def placeSoundUptoCard : Claim7 := { stood := { row := placeSoundUptoRow, standIns := [], harness := (true, "2ba55ab5541d68f250d235e5c53d471b4a90ed9149a15ab7bc1ebd2b53297bc7"), looks := true }, kinds := [], alts := [], laidByText := true, laidKinds := [.sentinel, .sentinel], laidTests := true, laidLooks := .later }
def PlaceSoundUptoCardSaid : Prop := Claim7.holds Tryd.pinned (.plain (OpenSpec.upto placeSoundSpec)) placeSoundUptoCard

/-- THE SECOND FORM's CARD OF 'linotypelaw35.WidenNone'. -/
def widenNoneUptoCard : Claim7 := { stood := { row := widenNoneUptoRow, standIns := [], harness := (true, "2ba55ab5541d68f250d235e5c53d471b4a90ed9149a15ab7bc1ebd2b53297bc7"), looks := true }, kinds := [], alts := [], laidByText := true, laidKinds := [.sentinel, .sentinel], laidTests := true, laidLooks := .later }
def WidenNoneUptoCardSaid : Prop := Claim7.holds Tryd.pinned (.plain (OpenSpec.upto widenNoneSpec)) widenNoneUptoCard

/-- THE SECOND FORM's CARD OF 'linotypelaw38.EditSound'. -/
def editSoundUptoCard : Claim7 := { stood := { row := editSoundUptoRow, standIns := [], harness := (true, "2ba55ab5541d68f250d235e5c53d471b4a90ed9149a15ab7bc1ebd2b53297bc7"), looks := true }, kinds := [], alts := [], laidByText := true, laidKinds := [.sentinel, .sentinel, .sentinel, .sentinel, .sentinel, .sentinel, .sentinel, .sentinel], laidTests := true, laidLooks := .later }
def EditSoundUptoCardSaid : Prop := Claim7.holds Tryd.pinned (.plain (OpenSpec.upto editSoundSpec)) editSoundUptoCard

/-- THE SECOND FORM's CARD OF 'linotypelaw39.SizeTurns'. -/
def sizeTurnsUptoCard : Claim7 := { stood := { row := sizeTurnsUptoRow, standIns := [], harness := (true, "2ba55ab5541d68f250d235e5c53d471b4a90ed9149a15ab7bc1ebd2b53297bc7"), looks := true }, kinds := [], alts := [], laidByText := true, laidKinds := [.sentinel, .sentinel], laidTests := true, laidLooks := .later }
def SizeTurnsUptoCardSaid : Prop := Claim7.holds Tryd.pinned (.plain (OpenSpec.upto sizeTurnsSpec)) sizeTurnsUptoCard

/-- THE SECOND FORM's CARD OF 'linotypelaw39.SizeKeeps'. -/
def sizeKeepsUptoCard : Claim7 := { stood := { row := sizeKeepsUptoRow, standIns := [], harness := (true, "2ba55ab5541d68f250d235e5c53d471b4a90ed9149a15ab7bc1ebd2b53297bc7"), looks := true }, kinds := [], alts := [], laidByText := true, laidKinds := [.sentinel, .sentinel], laidTests := true, laidLooks := .later }
def SizeKeepsUptoCardSaid : Prop := Claim7.holds Tryd.pinned (.plain (OpenSpec.upto sizeKeepsSpec)) sizeKeepsUptoCard

/-- THE SECOND FORM's CARD OF 'linotypelaw24.RowOwn'. -/
def rowOwnUptoCard : Claim7 := { stood := { row := rowOwnUptoRow, standIns := [], harness := (true, "2ba55ab5541d68f250d235e5c53d471b4a90ed9149a15ab7bc1ebd2b53297bc7"), looks := true }, kinds := [], alts := [], laidByText := true, laidKinds := [.sentinel, .sentinel], laidTests := true, laidLooks := .later }
def RowOwnUptoCardSaid : Prop := Claim7.holds Tryd.pinned (.plain (OpenSpec.upto rowOwnSpec)) rowOwnUptoCard
end Rows
end Go.Proofs.YteinppjklhomnaaDoor
