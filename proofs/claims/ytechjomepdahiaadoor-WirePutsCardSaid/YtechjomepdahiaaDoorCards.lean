/-
  DERIVED. GIVEN WITH THE SEED: THE CARDS: each row of YtechjomepdahiaaDoorRows.lean that lists a variable, with what it lists TIED to the program's text (the seventh form; the later family's looks); each row that meets fmt, with fmt's text TOLD by the authors' own Lean function (tested against real Go, not proved from fmt's source: count such statements apart). THE CARD IS WHAT COUNTS. Prove the row's statement (the work); the ties are given (YtechjomepdahiaaDoorTie.lean); close each card by the builder's one call (the guide's Derived/Test/ToyasCard.lean, 'card_holds'). Laid BY PROGRAM, IN A SANDBOX (cutbox-door.mjs). By AI agents, Wed Nov 11 2026. No macro, syntax, notation, axiom, sorry.
-/
import Derived.Test.YtechjomepdahiaaDoorRows
import GoSem.ClaimSeven
namespace Go.Proofs.YtechjomepdahiaaDoor
namespace Rows

/-- THE TIED CARD OF 'linotypelaw51.ReflowKeeps'. -/
def reflowKeepsCard : Claim7 := { stood := { row := reflowKeepsRow, standIns := [], harness := (true, "7cfeef1951b56a9243a51b6db94232a8c32c9514858b9dfbfd4f762f1df1027b"), looks := true }, kinds := [], alts := [], laidByText := true, laidKinds := [.sentinel], laidTests := true, laidLooks := .later }
def ReflowKeepsCardSaid : Prop := Claim7.holds Tryd.pinned (.plain (OpenSpec.ofChange reflowKeepsSpec)) reflowKeepsCard

/-- THE TIED CARD OF 'linotypelaw55.WirePuts'. -/
def wirePutsCard : Claim7 := { stood := { row := wirePutsRow, standIns := [], harness := (true, "7cfeef1951b56a9243a51b6db94232a8c32c9514858b9dfbfd4f762f1df1027b"), looks := true }, kinds := [], alts := [], laidByText := true, laidKinds := [.sentinel, .sentinel, .sentinel, .sentinel, .sentinel, .sentinel, .sentinel, .sentinel], laidTests := true, laidLooks := .later }
def WirePutsCardSaid : Prop := Claim7.holds Tryd.pinned (.plain (OpenSpec.ofChange wirePutsSpec)) wirePutsCard

/-- THE TIED CARD OF 'linotypelaw55.WireGets'. -/
def wireGetsCard : Claim7 := { stood := { row := wireGetsRow, standIns := [], harness := (true, "7cfeef1951b56a9243a51b6db94232a8c32c9514858b9dfbfd4f762f1df1027b"), looks := true }, kinds := [], alts := [], laidByText := true, laidKinds := [.sentinel, .sentinel, .sentinel, .sentinel, .sentinel, .sentinel, .sentinel, .sentinel], laidTests := true, laidLooks := .later }
def WireGetsCardSaid : Prop := Claim7.holds Tryd.pinned (.plain (OpenSpec.ofChange wireGetsSpec)) wireGetsCard

/-- THE TIED CARD OF 'linotypelaw55.WireCuts'. -/
def wireCutsCard : Claim7 := { stood := { row := wireCutsRow, standIns := [], harness := (true, "7cfeef1951b56a9243a51b6db94232a8c32c9514858b9dfbfd4f762f1df1027b"), looks := true }, kinds := [], alts := [], laidByText := true, laidKinds := [.sentinel, .sentinel, .sentinel, .sentinel, .sentinel, .sentinel, .sentinel, .sentinel], laidTests := true, laidLooks := .later }
def WireCutsCardSaid : Prop := Claim7.holds Tryd.pinned (.plain (OpenSpec.ofChange wireCutsSpec)) wireCutsCard

/-- THE TIED CARD OF 'linotypelaw59.BlitPlays'. -/
def blitPlaysCard : Claim7 := { stood := { row := blitPlaysRow, standIns := [], harness := (true, "7cfeef1951b56a9243a51b6db94232a8c32c9514858b9dfbfd4f762f1df1027b"), looks := true }, kinds := [], alts := [], laidByText := true, laidKinds := [.sentinel, .sentinel], laidTests := true, laidLooks := .later }
def BlitPlaysCardSaid : Prop := Claim7.holds Tryd.pinned (.plain (OpenSpec.ofChange blitPlaysSpec)) blitPlaysCard

/-- THE TIED CARD OF 'linotypelaw59.BlitBack'. -/
def blitBackCard : Claim7 := { stood := { row := blitBackRow, standIns := [], harness := (true, "7cfeef1951b56a9243a51b6db94232a8c32c9514858b9dfbfd4f762f1df1027b"), looks := true }, kinds := [], alts := [], laidByText := true, laidKinds := [.sentinel, .sentinel], laidTests := true, laidLooks := .later }
def BlitBackCardSaid : Prop := Claim7.holds Tryd.pinned (.plain (OpenSpec.ofChange blitBackSpec)) blitBackCard

/-- THE SECOND FORM's CARD OF 'linotypelaw51.ReflowKeeps'. -/
def reflowKeepsUptoCard : Claim7 := { stood := { row := reflowKeepsUptoRow, standIns := [], harness := (true, "7cfeef1951b56a9243a51b6db94232a8c32c9514858b9dfbfd4f762f1df1027b"), looks := true }, kinds := [], alts := [], laidByText := true, laidKinds := [.sentinel], laidTests := true, laidLooks := .later }
def ReflowKeepsUptoCardSaid : Prop := Claim7.holds Tryd.pinned (.plain (OpenSpec.upto reflowKeepsSpec)) reflowKeepsUptoCard

/-- THE SECOND FORM's CARD OF 'linotypelaw55.WirePuts'. -/
def wirePutsUptoCard : Claim7 := { stood := { row := wirePutsUptoRow, standIns := [], harness := (true, "7cfeef1951b56a9243a51b6db94232a8c32c9514858b9dfbfd4f762f1df1027b"), looks := true }, kinds := [], alts := [], laidByText := true, laidKinds := [.sentinel, .sentinel, .sentinel, .sentinel, .sentinel, .sentinel, .sentinel, .sentinel], laidTests := true, laidLooks := .later }
def WirePutsUptoCardSaid : Prop := Claim7.holds Tryd.pinned (.plain (OpenSpec.upto wirePutsSpec)) wirePutsUptoCard

/-- THE SECOND FORM's CARD OF 'linotypelaw55.WireGets'. -/
def wireGetsUptoCard : Claim7 := { stood := { row := wireGetsUptoRow, standIns := [], harness := (true, "7cfeef1951b56a9243a51b6db94232a8c32c9514858b9dfbfd4f762f1df1027b"), looks := true }, kinds := [], alts := [], laidByText := true, laidKinds := [.sentinel, .sentinel, .sentinel, .sentinel, .sentinel, .sentinel, .sentinel, .sentinel], laidTests := true, laidLooks := .later }
def WireGetsUptoCardSaid : Prop := Claim7.holds Tryd.pinned (.plain (OpenSpec.upto wireGetsSpec)) wireGetsUptoCard

/-- THE SECOND FORM's CARD OF 'linotypelaw55.WireCuts'. -/
def wireCutsUptoCard : Claim7 := { stood := { row := wireCutsUptoRow, standIns := [], harness := (true, "7cfeef1951b56a9243a51b6db94232a8c32c9514858b9dfbfd4f762f1df1027b"), looks := true }, kinds := [], alts := [], laidByText := true, laidKinds := [.sentinel, .sentinel, .sentinel, .sentinel, .sentinel, .sentinel, .sentinel, .sentinel], laidTests := true, laidLooks := .later }
def WireCutsUptoCardSaid : Prop := Claim7.holds Tryd.pinned (.plain (OpenSpec.upto wireCutsSpec)) wireCutsUptoCard

/-- THE SECOND FORM's CARD OF 'linotypelaw59.BlitPlays'. -/
def blitPlaysUptoCard : Claim7 := { stood := { row := blitPlaysUptoRow, standIns := [], harness := (true, "7cfeef1951b56a9243a51b6db94232a8c32c9514858b9dfbfd4f762f1df1027b"), looks := true }, kinds := [], alts := [], laidByText := true, laidKinds := [.sentinel, .sentinel], laidTests := true, laidLooks := .later }
def BlitPlaysUptoCardSaid : Prop := Claim7.holds Tryd.pinned (.plain (OpenSpec.upto blitPlaysSpec)) blitPlaysUptoCard

/-- THE SECOND FORM's CARD OF 'linotypelaw59.BlitBack'. -/
def blitBackUptoCard : Claim7 := { stood := { row := blitBackUptoRow, standIns := [], harness := (true, "7cfeef1951b56a9243a51b6db94232a8c32c9514858b9dfbfd4f762f1df1027b"), looks := true }, kinds := [], alts := [], laidByText := true, laidKinds := [.sentinel, .sentinel], laidTests := true, laidLooks := .later }
def BlitBackUptoCardSaid : Prop := Claim7.holds Tryd.pinned (.plain (OpenSpec.upto blitBackSpec)) blitBackUptoCard
end Rows
end Go.Proofs.YtechjomepdahiaaDoor
