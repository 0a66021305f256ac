/-
  No cell of these rows narrows 'for every input' (looked for: loops, veiled, ifaces, maps, wideKeys, modest, calm, conditions, laid).
  DERIVED. THE GIVEN ROWS OF THIS SEAT. 11 by the template 'for every input the law returns true; each argument reads behind the call as it read before'; 0 by the template 'total and deterministic' (their statements: YtgoeacmpphmnoaaTotals.lean).
  GIVEN WITH THE SEED: the statements are not yours to turn. If you find one false, say at which input.
  Laid BY PROGRAM, IN A SANDBOX (cutbox-rows.mjs): the forced cells as the released guide's own fill.sh prints them over the translation 6fa9c1b01ad77d01… (all of the seat's roots in one cut). By AI agents, Wed Nov 11 2026. No macro, syntax, notation, axiom, sorry.
-/
import Derived.Test.YtgoeacmpphmnoaaChecked
import GoSem.Claim
import GoSem.ClaimJoined
import GoSem.ClaimMapViews
import Derived.JoinedTies
import Derived.KernelRfl
namespace Go.Proofs.Ytgoeacmpphmnoaa
/- THE CELL 'sum', in the pinned program and in every row, IS THE sha256 OF THE DUMP (.gsa) THAT YtgoeacmpphmnoaaProg.lean LOADS. Nothing in Lean hashes anything: it is a label: what it is worth is what the hold of that sum in a sandbox is worth. -/
noncomputable def Try.pinned : Pinned := { name := "ytgoeacmpphmnoaa", sum := "6fa9c1b01ad77d0125229fa10d1cbe1f6a5acfabeca5f73415ae3dc484609083", checked := Try.checked }
namespace Rows
def none {H : Type} : Left H := { results := [], args := [] }

/-- 'linotypelaw04.UtfallParts': WHATEVER THE INPUT: true; the input reads as it did. -/
def utfallPartsSpec : ChangeSpec := { name := "utfallParts", fn := fun _ => fun
  | [d] => { results := [.lit (.bool true)], args := [d] }
  | _ => none }
def utfallPartsRow : OpenClaim := { program := "ytgoeacmpphmnoaa", sum := "6fa9c1b01ad77d0125229fa10d1cbe1f6a5acfabeca5f73415ae3dc484609083", func := "linotype/linotypelaw04.UtfallParts", spec := "utfallParts", recurses := true, apart := false }
def UtfallPartsSaid : Prop := utfallPartsRow.holds Try.pinned (OpenSpec.ofChange utfallPartsSpec)

/-- ITS FALSE NEIGHBOUR: 'it returns false'. Refute it at one input. -/
def utfallPartsWrong : ChangeSpec := { name := "utfallParts", fn := fun _ => fun
  | [d] => { results := [.lit (.bool false)], args := [d] }
  | _ => none }
def UtfallPartsWrongFalsely : Prop := utfallPartsRow.holds Try.pinned (OpenSpec.ofChange utfallPartsWrong)

/-- 'linotypelaw04.UtfallDecodes': WHATEVER THE INPUT: true; the input reads as it did. -/
def utfallDecodesSpec : ChangeSpec := { name := "utfallDecodes", fn := fun _ => fun
  | [d] => { results := [.lit (.bool true)], args := [d] }
  | _ => none }
def utfallDecodesRow : OpenClaim := { program := "ytgoeacmpphmnoaa", sum := "6fa9c1b01ad77d0125229fa10d1cbe1f6a5acfabeca5f73415ae3dc484609083", func := "linotype/linotypelaw04.UtfallDecodes", spec := "utfallDecodes", apart := false }
def UtfallDecodesSaid : Prop := utfallDecodesRow.holds Try.pinned (OpenSpec.ofChange utfallDecodesSpec)

/-- ITS FALSE NEIGHBOUR: 'it returns false'. Refute it at one input. -/
def utfallDecodesWrong : ChangeSpec := { name := "utfallDecodes", fn := fun _ => fun
  | [d] => { results := [.lit (.bool false)], args := [d] }
  | _ => none }
def UtfallDecodesWrongFalsely : Prop := utfallDecodesRow.holds Try.pinned (OpenSpec.ofChange utfallDecodesWrong)

/-- 'linotypelaw05.ChunksCut': WHATEVER THE INPUT: true; the input reads as it did. -/
def chunksCutSpec : ChangeSpec := { name := "chunksCut", fn := fun _ => fun
  | [d1, d2] => { results := [.lit (.bool true)], args := [d1, d2] }
  | _ => none }
def chunksCutRow : OpenClaim := { program := "ytgoeacmpphmnoaa", sum := "6fa9c1b01ad77d0125229fa10d1cbe1f6a5acfabeca5f73415ae3dc484609083", func := "linotype/linotypelaw05.ChunksCut", spec := "chunksCut", recurses := true, apart := false }
def ChunksCutSaid : Prop := chunksCutRow.holds Try.pinned (OpenSpec.ofChange chunksCutSpec)

/-- ITS FALSE NEIGHBOUR: 'it returns false'. Refute it at one input. -/
def chunksCutWrong : ChangeSpec := { name := "chunksCut", fn := fun _ => fun
  | [d1, d2] => { results := [.lit (.bool false)], args := [d1, d2] }
  | _ => none }
def ChunksCutWrongFalsely : Prop := chunksCutRow.holds Try.pinned (OpenSpec.ofChange chunksCutWrong)

/-- 'linotypelaw05.ChunksRead': WHATEVER THE INPUT: true; the input reads as it did. -/
def chunksReadSpec : ChangeSpec := { name := "chunksRead", fn := fun _ => fun
  | [d1, d2] => { results := [.lit (.bool true)], args := [d1, d2] }
  | _ => none }
def chunksReadRow : OpenClaim := { program := "ytgoeacmpphmnoaa", sum := "6fa9c1b01ad77d0125229fa10d1cbe1f6a5acfabeca5f73415ae3dc484609083", func := "linotype/linotypelaw05.ChunksRead", spec := "chunksRead", recurses := true, apart := false }
def ChunksReadSaid : Prop := chunksReadRow.holds Try.pinned (OpenSpec.ofChange chunksReadSpec)

/-- ITS FALSE NEIGHBOUR: 'it returns false'. Refute it at one input. -/
def chunksReadWrong : ChangeSpec := { name := "chunksRead", fn := fun _ => fun
  | [d1, d2] => { results := [.lit (.bool false)], args := [d1, d2] }
  | _ => none }
def ChunksReadWrongFalsely : Prop := chunksReadRow.holds Try.pinned (OpenSpec.ofChange chunksReadWrong)

/-- 'linotypelaw10.PictTable': WHATEVER THE INPUT: true; the input reads as it did. -/
def pictTableSpec : ChangeSpec := { name := "pictTable", fn := fun _ => fun
  | [d] => { results := [.lit (.bool true)], args := [d] }
  | _ => none }
def pictTableRow : OpenClaim := { program := "ytgoeacmpphmnoaa", sum := "6fa9c1b01ad77d0125229fa10d1cbe1f6a5acfabeca5f73415ae3dc484609083", func := "linotype/linotypelaw10.PictTable", spec := "pictTable", unfollowed := true, recurses := true, apart := false }
def PictTableSaid : Prop := pictTableRow.holds Try.pinned (OpenSpec.ofChange pictTableSpec)

/-- ITS FALSE NEIGHBOUR: 'it returns false'. Refute it at one input. -/
def pictTableWrong : ChangeSpec := { name := "pictTable", fn := fun _ => fun
  | [d] => { results := [.lit (.bool false)], args := [d] }
  | _ => none }
def PictTableWrongFalsely : Prop := pictTableRow.holds Try.pinned (OpenSpec.ofChange pictTableWrong)

/-- 'linotypelaw11.ConjTable': WHATEVER THE INPUT: true; the input reads as it did. -/
def conjTableSpec : ChangeSpec := { name := "conjTable", fn := fun _ => fun
  | [d] => { results := [.lit (.bool true)], args := [d] }
  | _ => none }
def conjTableRow : OpenClaim := { program := "ytgoeacmpphmnoaa", sum := "6fa9c1b01ad77d0125229fa10d1cbe1f6a5acfabeca5f73415ae3dc484609083", func := "linotype/linotypelaw11.ConjTable", spec := "conjTable", unfollowed := true, recurses := true, apart := false }
def ConjTableSaid : Prop := conjTableRow.holds Try.pinned (OpenSpec.ofChange conjTableSpec)

/-- ITS FALSE NEIGHBOUR: 'it returns false'. Refute it at one input. -/
def conjTableWrong : ChangeSpec := { name := "conjTable", fn := fun _ => fun
  | [d] => { results := [.lit (.bool false)], args := [d] }
  | _ => none }
def ConjTableWrongFalsely : Prop := conjTableRow.holds Try.pinned (OpenSpec.ofChange conjTableWrong)

/-- 'linotypelaw12.EastTable': WHATEVER THE INPUT: true; the input reads as it did. -/
def eastTableSpec : ChangeSpec := { name := "eastTable", fn := fun _ => fun
  | [d] => { results := [.lit (.bool true)], args := [d] }
  | _ => none }
def eastTableRow : OpenClaim := { program := "ytgoeacmpphmnoaa", sum := "6fa9c1b01ad77d0125229fa10d1cbe1f6a5acfabeca5f73415ae3dc484609083", func := "linotype/linotypelaw12.EastTable", spec := "eastTable", unfollowed := true, recurses := true, apart := false }
def EastTableSaid : Prop := eastTableRow.holds Try.pinned (OpenSpec.ofChange eastTableSpec)

/-- ITS FALSE NEIGHBOUR: 'it returns false'. Refute it at one input. -/
def eastTableWrong : ChangeSpec := { name := "eastTable", fn := fun _ => fun
  | [d] => { results := [.lit (.bool false)], args := [d] }
  | _ => none }
def EastTableWrongFalsely : Prop := eastTableRow.holds Try.pinned (OpenSpec.ofChange eastTableWrong)

/-- 'linotypelaw09.GcbTable': WHATEVER THE INPUT: true; the input reads as it did. -/
def gcbTableSpec : ChangeSpec := { name := "gcbTable", fn := fun _ => fun
  | [d] => { results := [.lit (.bool true)], args := [d] }
  | _ => none }
def gcbTableRow : OpenClaim := { program := "ytgoeacmpphmnoaa", sum := "6fa9c1b01ad77d0125229fa10d1cbe1f6a5acfabeca5f73415ae3dc484609083", func := "linotype/linotypelaw09.GcbTable", spec := "gcbTable", unfollowed := true, recurses := true, apart := false }
def GcbTableSaid : Prop := gcbTableRow.holds Try.pinned (OpenSpec.ofChange gcbTableSpec)

/-- ITS FALSE NEIGHBOUR: 'it returns false'. Refute it at one input. -/
def gcbTableWrong : ChangeSpec := { name := "gcbTable", fn := fun _ => fun
  | [d] => { results := [.lit (.bool false)], args := [d] }
  | _ => none }
def GcbTableWrongFalsely : Prop := gcbTableRow.holds Try.pinned (OpenSpec.ofChange gcbTableWrong)

/-- 'linotypelaw19.CwidthSteps': WHATEVER THE INPUT: true; the input reads as it did. -/
def cwidthStepsSpec : ChangeSpec := { name := "cwidthSteps", fn := fun _ => fun
  | [d1, d2] => { results := [.lit (.bool true)], args := [d1, d2] }
  | _ => none }
def cwidthStepsRow : OpenClaim := { program := "ytgoeacmpphmnoaa", sum := "6fa9c1b01ad77d0125229fa10d1cbe1f6a5acfabeca5f73415ae3dc484609083", func := "linotype/linotypelaw19.CwidthSteps", spec := "cwidthSteps", unfollowed := true, recurses := true, apart := false }
def CwidthStepsSaid : Prop := cwidthStepsRow.holds Try.pinned (OpenSpec.ofChange cwidthStepsSpec)

/-- ITS FALSE NEIGHBOUR: 'it returns false'. Refute it at one input. -/
def cwidthStepsWrong : ChangeSpec := { name := "cwidthSteps", fn := fun _ => fun
  | [d1, d2] => { results := [.lit (.bool false)], args := [d1, d2] }
  | _ => none }
def CwidthStepsWrongFalsely : Prop := cwidthStepsRow.holds Try.pinned (OpenSpec.ofChange cwidthStepsWrong)

/-- 'linotypelaw23.CellTells': WHATEVER THE INPUT: true; the input reads as it did. -/
def cellTellsSpec : ChangeSpec := { name := "cellTells", fn := fun _ => fun
  | [d1, d2] => { results := [.lit (.bool true)], args := [d1, d2] }
  | _ => none }
def cellTellsRow : OpenClaim := { program := "ytgoeacmpphmnoaa", sum := "6fa9c1b01ad77d0125229fa10d1cbe1f6a5acfabeca5f73415ae3dc484609083", func := "linotype/linotypelaw23.CellTells", spec := "cellTells", unfollowed := true, recurses := true, apart := false }
def CellTellsSaid : Prop := cellTellsRow.holds Try.pinned (OpenSpec.ofChange cellTellsSpec)

/-- ITS FALSE NEIGHBOUR: 'it returns false'. Refute it at one input. -/
def cellTellsWrong : ChangeSpec := { name := "cellTells", fn := fun _ => fun
  | [d1, d2] => { results := [.lit (.bool false)], args := [d1, d2] }
  | _ => none }
def CellTellsWrongFalsely : Prop := cellTellsRow.holds Try.pinned (OpenSpec.ofChange cellTellsWrong)

/-- 'linotypelaw23.CellMakes': WHATEVER THE INPUT: true; the input reads as it did. -/
def cellMakesSpec : ChangeSpec := { name := "cellMakes", fn := fun _ => fun
  | [d1, d2] => { results := [.lit (.bool true)], args := [d1, d2] }
  | _ => none }
def cellMakesRow : OpenClaim := { program := "ytgoeacmpphmnoaa", sum := "6fa9c1b01ad77d0125229fa10d1cbe1f6a5acfabeca5f73415ae3dc484609083", func := "linotype/linotypelaw23.CellMakes", spec := "cellMakes", unfollowed := true, recurses := true, apart := false }
def CellMakesSaid : Prop := cellMakesRow.holds Try.pinned (OpenSpec.ofChange cellMakesSpec)

/-- ITS FALSE NEIGHBOUR: 'it returns false'. Refute it at one input. -/
def cellMakesWrong : ChangeSpec := { name := "cellMakes", fn := fun _ => fun
  | [d1, d2] => { results := [.lit (.bool false)], args := [d1, d2] }
  | _ => none }
def CellMakesWrongFalsely : Prop := cellMakesRow.holds Try.pinned (OpenSpec.ofChange cellMakesWrong)

/- THE SECOND FORM. 'bulk': how many values and letters a reading holds, each counted each time it is reached (what is shared counts as often as it is met; a slice's spare places count too). A statement '..UptoSaid' is the law's where the arguments, and the package variables that the reading takes, are together of bulk at most 1048576: NARROWER than '..Said'. Prove '..Said' where nothing that the law and all that it calls make is longer than what came in: it says more and counts as full. Else prove '..UptoSaid'. A law counts once. -/
mutual
def uptoBulk {H : Type} : DataW H → Nat
  | .lit (.string bytes) => bytes.length + 1
  | .lit _ => 1
  | .nil => 1
  | .ptr d => uptoBulk d + 1
  | .slice elems spare => uptoBulkAll elems + uptoBulkAll spare + 1
  | .agg parts => uptoBulkAll parts + 1
  | .iface _ d => uptoBulk d + 1
  | .map entries => uptoBulkEntries entries + 1
  | .held _ => 1
def uptoBulkAll {H : Type} : List (DataW H) → Nat
  | [] => 0
  | d :: r => uptoBulk d + uptoBulkAll r
def uptoBulkEntries {H : Type} : List (Lit × DataW H) → Nat
  | [] => 0
  | x :: r => uptoBulkEntry x + uptoBulkEntries r
def uptoBulkEntry {H : Type} : Lit × DataW H → Nat
  | (.string bytes, d) => bytes.length + uptoBulk d + 1
  | (_, d) => uptoBulk d + 1
 end
def uptoSmall : (H : Type) → List (DataW H) → Bool := fun _ ds => decide (uptoBulkAll ds ≤ 1048576)
def OpenSpec.upto (s : _root_.Go.ChangeSpec) : _root_.Go.OpenSpec := { _root_.Go.OpenSpec.ofChange s with cond := some uptoSmall }

/-- 'linotypelaw04.UtfallParts', WHERE WHAT IT READS IS OF BULK AT MOST 1048576: true; the input reads as it did. -/
def utfallPartsUptoRow : OpenClaim := { program := "ytgoeacmpphmnoaa", sum := "6fa9c1b01ad77d0125229fa10d1cbe1f6a5acfabeca5f73415ae3dc484609083", func := "linotype/linotypelaw04.UtfallParts", spec := "utfallParts", recurses := true, apart := false, narrowed := true }
def UtfallPartsUptoSaid : Prop := utfallPartsUptoRow.holds Try.pinned (OpenSpec.upto utfallPartsSpec)

/-- 'linotypelaw04.UtfallDecodes', WHERE WHAT IT READS IS OF BULK AT MOST 1048576: true; the input reads as it did. -/
def utfallDecodesUptoRow : OpenClaim := { program := "ytgoeacmpphmnoaa", sum := "6fa9c1b01ad77d0125229fa10d1cbe1f6a5acfabeca5f73415ae3dc484609083", func := "linotype/linotypelaw04.UtfallDecodes", spec := "utfallDecodes", apart := false, narrowed := true }
def UtfallDecodesUptoSaid : Prop := utfallDecodesUptoRow.holds Try.pinned (OpenSpec.upto utfallDecodesSpec)

/-- 'linotypelaw05.ChunksCut', WHERE WHAT IT READS IS OF BULK AT MOST 1048576: true; the input reads as it did. -/
def chunksCutUptoRow : OpenClaim := { program := "ytgoeacmpphmnoaa", sum := "6fa9c1b01ad77d0125229fa10d1cbe1f6a5acfabeca5f73415ae3dc484609083", func := "linotype/linotypelaw05.ChunksCut", spec := "chunksCut", recurses := true, apart := false, narrowed := true }
def ChunksCutUptoSaid : Prop := chunksCutUptoRow.holds Try.pinned (OpenSpec.upto chunksCutSpec)

/-- 'linotypelaw05.ChunksRead', WHERE WHAT IT READS IS OF BULK AT MOST 1048576: true; the input reads as it did. -/
def chunksReadUptoRow : OpenClaim := { program := "ytgoeacmpphmnoaa", sum := "6fa9c1b01ad77d0125229fa10d1cbe1f6a5acfabeca5f73415ae3dc484609083", func := "linotype/linotypelaw05.ChunksRead", spec := "chunksRead", recurses := true, apart := false, narrowed := true }
def ChunksReadUptoSaid : Prop := chunksReadUptoRow.holds Try.pinned (OpenSpec.upto chunksReadSpec)

/-- 'linotypelaw10.PictTable', WHERE WHAT IT READS IS OF BULK AT MOST 1048576: true; the input reads as it did. -/
def pictTableUptoRow : OpenClaim := { program := "ytgoeacmpphmnoaa", sum := "6fa9c1b01ad77d0125229fa10d1cbe1f6a5acfabeca5f73415ae3dc484609083", func := "linotype/linotypelaw10.PictTable", spec := "pictTable", unfollowed := true, recurses := true, apart := false, narrowed := true }
def PictTableUptoSaid : Prop := pictTableUptoRow.holds Try.pinned (OpenSpec.upto pictTableSpec)

/-- 'linotypelaw11.ConjTable', WHERE WHAT IT READS IS OF BULK AT MOST 1048576: true; the input reads as it did. -/
def conjTableUptoRow : OpenClaim := { program := "ytgoeacmpphmnoaa", sum := "6fa9c1b01ad77d0125229fa10d1cbe1f6a5acfabeca5f73415ae3dc484609083", func := "linotype/linotypelaw11.ConjTable", spec := "conjTable", unfollowed := true, recurses := true, apart := false, narrowed := true }
def ConjTableUptoSaid : Prop := conjTableUptoRow.holds Try.pinned (OpenSpec.upto conjTableSpec)

/-- 'linotypelaw12.EastTable', WHERE WHAT IT READS IS OF BULK AT MOST 1048576: true; the input reads as it did. -/
def eastTableUptoRow : OpenClaim := { program := "ytgoeacmpphmnoaa", sum := "6fa9c1b01ad77d0125229fa10d1cbe1f6a5acfabeca5f73415ae3dc484609083", func := "linotype/linotypelaw12.EastTable", spec := "eastTable", unfollowed := true, recurses := true, apart := false, narrowed := true }
def EastTableUptoSaid : Prop := eastTableUptoRow.holds Try.pinned (OpenSpec.upto eastTableSpec)

/-- 'linotypelaw09.GcbTable', WHERE WHAT IT READS IS OF BULK AT MOST 1048576: true; the input reads as it did. -/
def gcbTableUptoRow : OpenClaim := { program := "ytgoeacmpphmnoaa", sum := "6fa9c1b01ad77d0125229fa10d1cbe1f6a5acfabeca5f73415ae3dc484609083", func := "linotype/linotypelaw09.GcbTable", spec := "gcbTable", unfollowed := true, recurses := true, apart := false, narrowed := true }
def GcbTableUptoSaid : Prop := gcbTableUptoRow.holds Try.pinned (OpenSpec.upto gcbTableSpec)

/-- 'linotypelaw19.CwidthSteps', WHERE WHAT IT READS IS OF BULK AT MOST 1048576: true; the input reads as it did. -/
def cwidthStepsUptoRow : OpenClaim := { program := "ytgoeacmpphmnoaa", sum := "6fa9c1b01ad77d0125229fa10d1cbe1f6a5acfabeca5f73415ae3dc484609083", func := "linotype/linotypelaw19.CwidthSteps", spec := "cwidthSteps", unfollowed := true, recurses := true, apart := false, narrowed := true }
def CwidthStepsUptoSaid : Prop := cwidthStepsUptoRow.holds Try.pinned (OpenSpec.upto cwidthStepsSpec)

/-- 'linotypelaw23.CellTells', WHERE WHAT IT READS IS OF BULK AT MOST 1048576: true; the input reads as it did. -/
def cellTellsUptoRow : OpenClaim := { program := "ytgoeacmpphmnoaa", sum := "6fa9c1b01ad77d0125229fa10d1cbe1f6a5acfabeca5f73415ae3dc484609083", func := "linotype/linotypelaw23.CellTells", spec := "cellTells", unfollowed := true, recurses := true, apart := false, narrowed := true }
def CellTellsUptoSaid : Prop := cellTellsUptoRow.holds Try.pinned (OpenSpec.upto cellTellsSpec)

/-- 'linotypelaw23.CellMakes', WHERE WHAT IT READS IS OF BULK AT MOST 1048576: true; the input reads as it did. -/
def cellMakesUptoRow : OpenClaim := { program := "ytgoeacmpphmnoaa", sum := "6fa9c1b01ad77d0125229fa10d1cbe1f6a5acfabeca5f73415ae3dc484609083", func := "linotype/linotypelaw23.CellMakes", spec := "cellMakes", unfollowed := true, recurses := true, apart := false, narrowed := true }
def CellMakesUptoSaid : Prop := cellMakesUptoRow.holds Try.pinned (OpenSpec.upto cellMakesSpec)

end Rows
end Go.Proofs.Ytgoeacmpphmnoaa
