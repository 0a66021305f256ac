/-
  DERIVED. GIVEN WITH THE SEED: THE CARDS: each row of YtblmjemgfpbdlaaDoorRows.lean that lists a variable, with what it lists TIED to the program's text (the seventh form; the later family's looks); each row that meets fmt, with fmt's text TOLD by the authors' own Lean function (tested against real Go, not proved from fmt's source: count such statements apart). THE CARD IS WHAT COUNTS. Prove the row's statement (the work); the ties are given (YtblmjemgfpbdlaaDoorTie.lean); close each card by the builder's one call (the guide's Derived/Test/ToyasCard.lean, 'card_holds'). Laid BY PROGRAM, IN A SANDBOX (cutbox-door.mjs). By AI agents, Wed Nov 11 2026. No macro, syntax, notation, axiom, sorry.
-/
import Derived.Test.YtblmjemgfpbdlaaDoorRows
import GoSem.ClaimSeven
namespace Go.Proofs.YtblmjemgfpbdlaaDoor
namespace Rows

/-- THE TIED CARD OF 'linotypelaw01.ScalarTells'. -/
def scalarTellsCard : Claim7 := { stood := { row := scalarTellsRow, standIns := [], harness := (true, "c4e9cbd8f2116a90cf1397703b64b6410146da2566d4eb859e0e3f43bc66265e"), looks := true }, kinds := [], alts := [], laidByText := true, laidKinds := [.sentinel], laidTests := true, laidLooks := .later }
def ScalarTellsCardSaid : Prop := Claim7.holds Tryd.pinned (.plain (OpenSpec.ofChange scalarTellsSpec)) scalarTellsCard

/-- THE TIED CARD OF 'linotypelaw01.ScalarPuts'. -/
def scalarPutsCard : Claim7 := { stood := { row := scalarPutsRow, standIns := [], harness := (true, "c4e9cbd8f2116a90cf1397703b64b6410146da2566d4eb859e0e3f43bc66265e"), looks := true }, kinds := [], alts := [], laidByText := true, laidKinds := [.handle, .sentinel, .sentinel, .sentinel, .sentinel, .sentinel, .sentinel, .sentinel, .sentinel], laidTests := true, laidLooks := .later }
def ScalarPutsCardSaid : Prop := Claim7.holds Tryd.pinned (.plain (OpenSpec.ofChange scalarPutsSpec)) scalarPutsCard

/-- THE TIED CARD OF 'linotypelaw01.ScalarOrder'. -/
def scalarOrderCard : Claim7 := { stood := { row := scalarOrderRow, standIns := [], harness := (true, "c4e9cbd8f2116a90cf1397703b64b6410146da2566d4eb859e0e3f43bc66265e"), looks := true }, kinds := [], alts := [], laidByText := true, laidKinds := [.sentinel], laidTests := true, laidLooks := .later }
def ScalarOrderCardSaid : Prop := Claim7.holds Tryd.pinned (.plain (OpenSpec.ofChange scalarOrderSpec)) scalarOrderCard

/-- THE SECOND FORM's CARD OF 'linotypelaw01.ScalarTells'. -/
def scalarTellsUptoCard : Claim7 := { stood := { row := scalarTellsUptoRow, standIns := [], harness := (true, "c4e9cbd8f2116a90cf1397703b64b6410146da2566d4eb859e0e3f43bc66265e"), looks := true }, kinds := [], alts := [], laidByText := true, laidKinds := [.sentinel], laidTests := true, laidLooks := .later }
def ScalarTellsUptoCardSaid : Prop := Claim7.holds Tryd.pinned (.plain (OpenSpec.upto scalarTellsSpec)) scalarTellsUptoCard

/-- THE SECOND FORM's CARD OF 'linotypelaw01.ScalarPuts'. -/
def scalarPutsUptoCard : Claim7 := { stood := { row := scalarPutsUptoRow, standIns := [], harness := (true, "c4e9cbd8f2116a90cf1397703b64b6410146da2566d4eb859e0e3f43bc66265e"), looks := true }, kinds := [], alts := [], laidByText := true, laidKinds := [.handle, .sentinel, .sentinel, .sentinel, .sentinel, .sentinel, .sentinel, .sentinel, .sentinel], laidTests := true, laidLooks := .later }
def ScalarPutsUptoCardSaid : Prop := Claim7.holds Tryd.pinned (.plain (OpenSpec.upto scalarPutsSpec)) scalarPutsUptoCard

/-- THE SECOND FORM's CARD OF 'linotypelaw01.ScalarOrder'. -/
def scalarOrderUptoCard : Claim7 := { stood := { row := scalarOrderUptoRow, standIns := [], harness := (true, "c4e9cbd8f2116a90cf1397703b64b6410146da2566d4eb859e0e3f43bc66265e"), looks := true }, kinds := [], alts := [], laidByText := true, laidKinds := [.sentinel], laidTests := true, laidLooks := .later }
def ScalarOrderUptoCardSaid : Prop := Claim7.holds Tryd.pinned (.plain (OpenSpec.upto scalarOrderSpec)) scalarOrderUptoCard
end Rows
end Go.Proofs.YtblmjemgfpbdlaaDoor
