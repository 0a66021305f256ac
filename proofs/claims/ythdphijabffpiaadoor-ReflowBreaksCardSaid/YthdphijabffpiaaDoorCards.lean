/-
  DERIVED. GIVEN WITH THE SEED: THE CARDS: each row of YthdphijabffpiaaDoorRows.lean that lists a variable, with what it lists TIED to the program's text (the seventh form; the later family's looks); each row that meets fmt, with fmt's text TOLD by the authors' own Lean function (tested against real Go, not proved from fmt's source: count such statements apart). THE CARD IS WHAT COUNTS. Prove the row's statement (the work); the ties are given (YthdphijabffpiaaDoorTie.lean); close each card by the builder's one call (the guide's Derived/Test/ToyasCard.lean, 'card_holds'). Laid BY PROGRAM, IN A SANDBOX (cutbox-door.mjs). By AI agents, Wed Nov 11 2026. No macro, syntax, notation, axiom, sorry.
-/
import Derived.Test.YthdphijabffpiaaDoorRows
import GoSem.ClaimSeven
namespace Go.Proofs.YthdphijabffpiaaDoor
namespace Rows

/-- THE TIED CARD OF 'linotypelaw47.AuditLooks'. -/
def auditLooksCard : Claim7 := { stood := { row := auditLooksRow, standIns := [], harness := (true, "57b3e300c4aebc4fc9d8a968a19f14ac90c2a52ecf984dd74e50ac2d5cebb967"), looks := true }, kinds := [], alts := [], laidByText := true, laidKinds := [.handle, .sentinel, .sentinel, .sentinel, .sentinel, .sentinel, .sentinel, .sentinel, .sentinel], laidTests := true, laidLooks := .later }
def AuditLooksCardSaid : Prop := Claim7.holds Tryd.pinned (.plain (OpenSpec.ofChange auditLooksSpec)) auditLooksCard

/-- THE TIED CARD OF 'linotypelaw47.AuditRight'. -/
def auditRightCard : Claim7 := { stood := { row := auditRightRow, standIns := [], harness := (true, "57b3e300c4aebc4fc9d8a968a19f14ac90c2a52ecf984dd74e50ac2d5cebb967"), looks := true }, kinds := [], alts := [], laidByText := true, laidKinds := [.handle, .sentinel, .sentinel, .sentinel, .sentinel, .sentinel, .sentinel, .sentinel, .sentinel], laidTests := true, laidLooks := .later }
def AuditRightCardSaid : Prop := Claim7.holds Tryd.pinned (.plain (OpenSpec.ofChange auditRightSpec)) auditRightCard

/-- THE TIED CARD OF 'linotypelaw51.ReflowBreaks'. -/
def reflowBreaksCard : Claim7 := { stood := { row := reflowBreaksRow, standIns := [], harness := (true, "57b3e300c4aebc4fc9d8a968a19f14ac90c2a52ecf984dd74e50ac2d5cebb967"), looks := true }, kinds := [], alts := [], laidByText := true, laidKinds := [.handle, .sentinel, .sentinel, .sentinel, .sentinel, .sentinel, .sentinel, .sentinel, .sentinel], laidTests := true, laidLooks := .later }
def ReflowBreaksCardSaid : Prop := Claim7.holds Tryd.pinned (.plain (OpenSpec.ofChange reflowBreaksSpec)) reflowBreaksCard

/-- THE TIED CARD OF 'linotypelaw51.ReflowItems'. -/
def reflowItemsCard : Claim7 := { stood := { row := reflowItemsRow, standIns := [], harness := (true, "57b3e300c4aebc4fc9d8a968a19f14ac90c2a52ecf984dd74e50ac2d5cebb967"), looks := true }, kinds := [], alts := [], laidByText := true, laidKinds := [.handle, .sentinel, .sentinel, .sentinel, .sentinel, .sentinel, .sentinel, .sentinel, .sentinel], laidTests := true, laidLooks := .later }
def ReflowItemsCardSaid : Prop := Claim7.holds Tryd.pinned (.plain (OpenSpec.ofChange reflowItemsSpec)) reflowItemsCard

/-- THE TIED CARD OF 'linotypelaw52.RegionTexts'. -/
def regionTextsCard : Claim7 := { stood := { row := regionTextsRow, standIns := [], harness := (true, "57b3e300c4aebc4fc9d8a968a19f14ac90c2a52ecf984dd74e50ac2d5cebb967"), looks := true }, kinds := [], alts := [], laidByText := true, laidKinds := [.sentinel, .sentinel, .sentinel, .sentinel, .sentinel], laidTests := true, laidLooks := .later }
def RegionTextsCardSaid : Prop := Claim7.holds Tryd.pinned (.plain (OpenSpec.ofChange regionTextsSpec)) regionTextsCard

/-- THE TIED CARD OF 'linotypelaw52.RegionBoxes'. -/
def regionBoxesCard : Claim7 := { stood := { row := regionBoxesRow, standIns := [], harness := (true, "57b3e300c4aebc4fc9d8a968a19f14ac90c2a52ecf984dd74e50ac2d5cebb967"), looks := true }, kinds := [], alts := [], laidByText := true, laidKinds := [.sentinel, .sentinel, .sentinel, .sentinel, .sentinel], laidTests := true, laidLooks := .later }
def RegionBoxesCardSaid : Prop := Claim7.holds Tryd.pinned (.plain (OpenSpec.ofChange regionBoxesSpec)) regionBoxesCard

/-- THE TIED CARD OF 'linotypelaw53.SearchFinds'. -/
def searchFindsCard : Claim7 := { stood := { row := searchFindsRow, standIns := [], harness := (true, "57b3e300c4aebc4fc9d8a968a19f14ac90c2a52ecf984dd74e50ac2d5cebb967"), looks := true }, kinds := [], alts := [], laidByText := true, laidKinds := [.sentinel, .sentinel, .sentinel, .sentinel, .sentinel], laidTests := true, laidLooks := .later }
def SearchFindsCardSaid : Prop := Claim7.holds Tryd.pinned (.plain (OpenSpec.ofChange searchFindsSpec)) searchFindsCard

/-- THE SECOND FORM's CARD OF 'linotypelaw47.AuditLooks'. -/
def auditLooksUptoCard : Claim7 := { stood := { row := auditLooksUptoRow, standIns := [], harness := (true, "57b3e300c4aebc4fc9d8a968a19f14ac90c2a52ecf984dd74e50ac2d5cebb967"), looks := true }, kinds := [], alts := [], laidByText := true, laidKinds := [.handle, .sentinel, .sentinel, .sentinel, .sentinel, .sentinel, .sentinel, .sentinel, .sentinel], laidTests := true, laidLooks := .later }
def AuditLooksUptoCardSaid : Prop := Claim7.holds Tryd.pinned (.plain (OpenSpec.upto auditLooksSpec)) auditLooksUptoCard

/-- THE SECOND FORM's CARD OF 'linotypelaw47.AuditRight'. -/
def auditRightUptoCard : Claim7 := { stood := { row := auditRightUptoRow, standIns := [], harness := (true, "57b3e300c4aebc4fc9d8a968a19f14ac90c2a52ecf984dd74e50ac2d5cebb967"), looks := true }, kinds := [], alts := [], laidByText := true, laidKinds := [.handle, .sentinel, .sentinel, .sentinel, .sentinel, .sentinel, .sentinel, .sentinel, .sentinel], laidTests := true, laidLooks := .later }
def AuditRightUptoCardSaid : Prop := Claim7.holds Tryd.pinned (.plain (OpenSpec.upto auditRightSpec)) auditRightUptoCard

/-- THE SECOND FORM's CARD OF 'linotypelaw51.ReflowBreaks'. -/
def reflowBreaksUptoCard : Claim7 := { stood := { row := reflowBreaksUptoRow, standIns := [], harness := (true, "57b3e300c4aebc4fc9d8a968a19f14ac90c2a52ecf984dd74e50ac2d5cebb967"), looks := true }, kinds := [], alts := [], laidByText := true, laidKinds := [.handle, .sentinel, .sentinel, .sentinel, .sentinel, .sentinel, .sentinel, .sentinel, .sentinel], laidTests := true, laidLooks := .later }
def ReflowBreaksUptoCardSaid : Prop := Claim7.holds Tryd.pinned (.plain (OpenSpec.upto reflowBreaksSpec)) reflowBreaksUptoCard

/-- THE SECOND FORM's CARD OF 'linotypelaw51.ReflowItems'. -/
def reflowItemsUptoCard : Claim7 := { stood := { row := reflowItemsUptoRow, standIns := [], harness := (true, "57b3e300c4aebc4fc9d8a968a19f14ac90c2a52ecf984dd74e50ac2d5cebb967"), looks := true }, kinds := [], alts := [], laidByText := true, laidKinds := [.handle, .sentinel, .sentinel, .sentinel, .sentinel, .sentinel, .sentinel, .sentinel, .sentinel], laidTests := true, laidLooks := .later }
def ReflowItemsUptoCardSaid : Prop := Claim7.holds Tryd.pinned (.plain (OpenSpec.upto reflowItemsSpec)) reflowItemsUptoCard

/-- THE SECOND FORM's CARD OF 'linotypelaw52.RegionTexts'. -/
def regionTextsUptoCard : Claim7 := { stood := { row := regionTextsUptoRow, standIns := [], harness := (true, "57b3e300c4aebc4fc9d8a968a19f14ac90c2a52ecf984dd74e50ac2d5cebb967"), looks := true }, kinds := [], alts := [], laidByText := true, laidKinds := [.sentinel, .sentinel, .sentinel, .sentinel, .sentinel], laidTests := true, laidLooks := .later }
def RegionTextsUptoCardSaid : Prop := Claim7.holds Tryd.pinned (.plain (OpenSpec.upto regionTextsSpec)) regionTextsUptoCard

/-- THE SECOND FORM's CARD OF 'linotypelaw52.RegionBoxes'. -/
def regionBoxesUptoCard : Claim7 := { stood := { row := regionBoxesUptoRow, standIns := [], harness := (true, "57b3e300c4aebc4fc9d8a968a19f14ac90c2a52ecf984dd74e50ac2d5cebb967"), looks := true }, kinds := [], alts := [], laidByText := true, laidKinds := [.sentinel, .sentinel, .sentinel, .sentinel, .sentinel], laidTests := true, laidLooks := .later }
def RegionBoxesUptoCardSaid : Prop := Claim7.holds Tryd.pinned (.plain (OpenSpec.upto regionBoxesSpec)) regionBoxesUptoCard

/-- THE SECOND FORM's CARD OF 'linotypelaw53.SearchFinds'. -/
def searchFindsUptoCard : Claim7 := { stood := { row := searchFindsUptoRow, standIns := [], harness := (true, "57b3e300c4aebc4fc9d8a968a19f14ac90c2a52ecf984dd74e50ac2d5cebb967"), looks := true }, kinds := [], alts := [], laidByText := true, laidKinds := [.sentinel, .sentinel, .sentinel, .sentinel, .sentinel], laidTests := true, laidLooks := .later }
def SearchFindsUptoCardSaid : Prop := Claim7.holds Tryd.pinned (.plain (OpenSpec.upto searchFindsSpec)) searchFindsUptoCard
end Rows
end Go.Proofs.YthdphijabffpiaaDoor
