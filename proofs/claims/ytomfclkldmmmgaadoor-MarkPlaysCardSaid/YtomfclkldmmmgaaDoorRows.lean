/-
  NARROWER THAN 'FOR EVERY INPUT', by the rows' own cells (each row's printed sentence says how): RowOwn: laid · MarkPlays: laid · MarkWidens: laid · ErasePlays: laid · EraseFar: laid · ShiftPlays: laid · ShiftBack: laid · FitResizes: laid · FitSplits: laid · FitJoins: laid · RowtextTells: laid · GridMakes: laid.
  DERIVED. THE GIVEN ROWS OF THIS SEAT. 12 by the template 'for every input the law returns true; each argument reads behind the call as it read before'; 0 by the template 'total and deterministic' (their statements: YtomfclkldmmmgaaDoorTotals.lean).
  GIVEN WITH THE SEED: the statements are not yours to turn. If you find one false, say at which input.
  Laid BY PROGRAM, IN A SANDBOX (cutbox-rows.mjs): the forced cells as the released guide's own fill.sh prints them over the translation eb1a18b3dd5a88c5… (all of the seat's roots in one cut). By AI agents, Wed Nov 11 2026. No macro, syntax, notation, axiom, sorry.
-/
import Derived.Test.YtomfclkldmmmgaaDoorChecked
import GoSem.Claim
import GoSem.ClaimJoined
import GoSem.ClaimMapViews
import Derived.JoinedTies
import Derived.KernelRfl
namespace Go.Proofs.YtomfclkldmmmgaaDoor
/- THE CELL 'sum', in the pinned program and in every row, IS THE sha256 OF THE DUMP (.gsa) THAT YtomfclkldmmmgaaDoorProg.lean LOADS. Nothing in Lean hashes anything: it is a label: what it is worth is what the hold of that sum in a sandbox is worth. -/
noncomputable def Tryd.pinned : Pinned := { name := "ytomfclkldmmmgaadoor", sum := "eb1a18b3dd5a88c501e63820fa8b8ce5c470f7b8fbd4b85e4c15d602122383b2", checked := Tryd.checked }
namespace Rows
def none {H : Type} : Left H := { results := [], args := [] }

/- WHAT THE LISTED PACKAGE-LEVEL VARIABLES READ AS WHEN THE CALL BEGINS. Each datum BY PROGRAM (the guide's laid-datum.mjs) off the statement by which the dump's own 'gosem.cut.vars' lays the variable. In a bare row this is a premise. The card (YtomfclkldmmmgaaDoorCards.lean) ties it to the program's text. -/
def laid_linotype_api_ErrRange {H : Type} : DataW H := .iface "*errors.errorString" (.ptr (.agg [.lit (.string [114, 97, 110, 103, 101])]))
def laid_linotype_api_ErrKind {H : Type} : DataW H := .iface "*errors.errorString" (.ptr (.agg [.lit (.string [107, 105, 110, 100])]))
def laid_linotype_api_ErrScalar {H : Type} : DataW H := .iface "*errors.errorString" (.ptr (.agg [.lit (.string [115, 99, 97, 108, 97, 114])]))
def laid_linotype_api_ErrForm {H : Type} : DataW H := .iface "*errors.errorString" (.ptr (.agg [.lit (.string [102, 111, 114, 109])]))
def laid_linotype_api_ErrLong {H : Type} : DataW H := .iface "*errors.errorString" (.ptr (.agg [.lit (.string [108, 111, 110, 103])]))
def laid_linotype_api_ErrWord {H : Type} : DataW H := .iface "*errors.errorString" (.ptr (.agg [.lit (.string [119, 111, 114, 100])]))
def laid_linotype_api_ErrFull {H : Type} : DataW H := .iface "*errors.errorString" (.ptr (.agg [.lit (.string [102, 117, 108, 108])]))
def laid_linotype_api_ErrNone {H : Type} : DataW H := .iface "*errors.errorString" (.ptr (.agg [.lit (.string [110, 111, 110, 101])]))
def laid_errors_errorType {H : Type} : DataW H := .iface "internal/reflectlite.rtype" (.agg [.ptr (.lit (.string [101, 114, 114, 111, 114]))])

/-- 'linotypelaw24.RowOwn': WHATEVER THE INPUT: true; the input reads as it did. -/
def rowOwnSpec : ChangeSpec := { name := "rowOwn", fn := fun _ => fun
  | [d] => { results := [.lit (.bool true)], args := [d] }
  | _ => none }
def rowOwnRow : OpenClaim := { program := "ytomfclkldmmmgaadoor", sum := "eb1a18b3dd5a88c501e63820fa8b8ce5c470f7b8fbd4b85e4c15d602122383b2", func := "linotype/linotypelaw24.RowOwn", spec := "rowOwn", unfollowed := true, recurses := true, named := ["linotype/api.ErrRange", "linotype/api.ErrKind"], apart := false, laid := [("linotype/api.ErrRange", laid_linotype_api_ErrRange), ("linotype/api.ErrKind", laid_linotype_api_ErrKind)] }
def RowOwnSaid : Prop := rowOwnRow.holds Tryd.pinned (OpenSpec.ofChange rowOwnSpec)

/-- ITS FALSE NEIGHBOUR: 'it returns false'. Refute it at one input. -/
def rowOwnWrong : ChangeSpec := { name := "rowOwn", fn := fun _ => fun
  | [d] => { results := [.lit (.bool false)], args := [d] }
  | _ => none }
def RowOwnWrongFalsely : Prop := rowOwnRow.holds Tryd.pinned (OpenSpec.ofChange rowOwnWrong)

/-- 'linotypelaw25.MarkPlays': WHATEVER THE INPUT: true; the input reads as it did. -/
def markPlaysSpec : ChangeSpec := { name := "markPlays", fn := fun _ => fun
  | [d1, d2, d3] => { results := [.lit (.bool true)], args := [d1, d2, d3] }
  | _ => none }
def markPlaysRow : OpenClaim := { program := "ytomfclkldmmmgaadoor", sum := "eb1a18b3dd5a88c501e63820fa8b8ce5c470f7b8fbd4b85e4c15d602122383b2", func := "linotype/linotypelaw25.MarkPlays", spec := "markPlays", inPlace := ["internal/reflectlite.TypeOf"], unfollowed := true, recurses := true, named := ["linotype/api.ErrRange", "linotype/api.ErrKind", "linotype/api.ErrScalar", "linotype/api.ErrForm", "linotype/api.ErrLong", "linotype/api.ErrWord", "linotype/api.ErrFull", "linotype/api.ErrNone"], apart := false, laid := [("linotype/api.ErrScalar", laid_linotype_api_ErrScalar), ("linotype/api.ErrForm", laid_linotype_api_ErrForm), ("linotype/api.ErrRange", laid_linotype_api_ErrRange), ("linotype/api.ErrLong", laid_linotype_api_ErrLong), ("linotype/api.ErrKind", laid_linotype_api_ErrKind), ("linotype/api.ErrWord", laid_linotype_api_ErrWord), ("linotype/api.ErrFull", laid_linotype_api_ErrFull), ("linotype/api.ErrNone", laid_linotype_api_ErrNone)] }
def MarkPlaysSaid : Prop := markPlaysRow.holds Tryd.pinned (OpenSpec.ofChange markPlaysSpec)

/-- ITS FALSE NEIGHBOUR: 'it returns false'. Refute it at one input. -/
def markPlaysWrong : ChangeSpec := { name := "markPlays", fn := fun _ => fun
  | [d1, d2, d3] => { results := [.lit (.bool false)], args := [d1, d2, d3] }
  | _ => none }
def MarkPlaysWrongFalsely : Prop := markPlaysRow.holds Tryd.pinned (OpenSpec.ofChange markPlaysWrong)

/-- 'linotypelaw25.MarkWidens': WHATEVER THE INPUT: true; the input reads as it did. -/
def markWidensSpec : ChangeSpec := { name := "markWidens", fn := fun _ => fun
  | [d1, d2, d3] => { results := [.lit (.bool true)], args := [d1, d2, d3] }
  | _ => none }
def markWidensRow : OpenClaim := { program := "ytomfclkldmmmgaadoor", sum := "eb1a18b3dd5a88c501e63820fa8b8ce5c470f7b8fbd4b85e4c15d602122383b2", func := "linotype/linotypelaw25.MarkWidens", spec := "markWidens", unfollowed := true, recurses := true, named := ["linotype/api.ErrRange", "linotype/api.ErrKind"], apart := false, laid := [("linotype/api.ErrRange", laid_linotype_api_ErrRange), ("linotype/api.ErrKind", laid_linotype_api_ErrKind)] }
def MarkWidensSaid : Prop := markWidensRow.holds Tryd.pinned (OpenSpec.ofChange markWidensSpec)

/-- ITS FALSE NEIGHBOUR: 'it returns false'. Refute it at one input. -/
def markWidensWrong : ChangeSpec := { name := "markWidens", fn := fun _ => fun
  | [d1, d2, d3] => { results := [.lit (.bool false)], args := [d1, d2, d3] }
  | _ => none }
def MarkWidensWrongFalsely : Prop := markWidensRow.holds Tryd.pinned (OpenSpec.ofChange markWidensWrong)

/-- 'linotypelaw26.ErasePlays': WHATEVER THE INPUT: true; the input reads as it did. -/
def erasePlaysSpec : ChangeSpec := { name := "erasePlays", fn := fun _ => fun
  | [d1, d2, d3] => { results := [.lit (.bool true)], args := [d1, d2, d3] }
  | _ => none }
def erasePlaysRow : OpenClaim := { program := "ytomfclkldmmmgaadoor", sum := "eb1a18b3dd5a88c501e63820fa8b8ce5c470f7b8fbd4b85e4c15d602122383b2", func := "linotype/linotypelaw26.ErasePlays", spec := "erasePlays", unfollowed := true, recurses := true, named := ["linotype/api.ErrRange", "linotype/api.ErrKind"], apart := false, laid := [("linotype/api.ErrRange", laid_linotype_api_ErrRange), ("linotype/api.ErrKind", laid_linotype_api_ErrKind)] }
def ErasePlaysSaid : Prop := erasePlaysRow.holds Tryd.pinned (OpenSpec.ofChange erasePlaysSpec)

/-- ITS FALSE NEIGHBOUR: 'it returns false'. Refute it at one input. -/
def erasePlaysWrong : ChangeSpec := { name := "erasePlays", fn := fun _ => fun
  | [d1, d2, d3] => { results := [.lit (.bool false)], args := [d1, d2, d3] }
  | _ => none }
def ErasePlaysWrongFalsely : Prop := erasePlaysRow.holds Tryd.pinned (OpenSpec.ofChange erasePlaysWrong)

/-- 'linotypelaw26.EraseFar': WHATEVER THE INPUT: true; the input reads as it did. -/
def eraseFarSpec : ChangeSpec := { name := "eraseFar", fn := fun _ => fun
  | [d1, d2, d3] => { results := [.lit (.bool true)], args := [d1, d2, d3] }
  | _ => none }
def eraseFarRow : OpenClaim := { program := "ytomfclkldmmmgaadoor", sum := "eb1a18b3dd5a88c501e63820fa8b8ce5c470f7b8fbd4b85e4c15d602122383b2", func := "linotype/linotypelaw26.EraseFar", spec := "eraseFar", unfollowed := true, recurses := true, named := ["linotype/api.ErrRange", "linotype/api.ErrKind"], apart := false, laid := [("linotype/api.ErrRange", laid_linotype_api_ErrRange), ("linotype/api.ErrKind", laid_linotype_api_ErrKind)] }
def EraseFarSaid : Prop := eraseFarRow.holds Tryd.pinned (OpenSpec.ofChange eraseFarSpec)

/-- ITS FALSE NEIGHBOUR: 'it returns false'. Refute it at one input. -/
def eraseFarWrong : ChangeSpec := { name := "eraseFar", fn := fun _ => fun
  | [d1, d2, d3] => { results := [.lit (.bool false)], args := [d1, d2, d3] }
  | _ => none }
def EraseFarWrongFalsely : Prop := eraseFarRow.holds Tryd.pinned (OpenSpec.ofChange eraseFarWrong)

/-- 'linotypelaw27.ShiftPlays': WHATEVER THE INPUT: true; the input reads as it did. -/
def shiftPlaysSpec : ChangeSpec := { name := "shiftPlays", fn := fun _ => fun
  | [d1, d2, d3] => { results := [.lit (.bool true)], args := [d1, d2, d3] }
  | _ => none }
def shiftPlaysRow : OpenClaim := { program := "ytomfclkldmmmgaadoor", sum := "eb1a18b3dd5a88c501e63820fa8b8ce5c470f7b8fbd4b85e4c15d602122383b2", func := "linotype/linotypelaw27.ShiftPlays", spec := "shiftPlays", unfollowed := true, recurses := true, named := ["linotype/api.ErrRange", "linotype/api.ErrKind"], apart := false, laid := [("linotype/api.ErrRange", laid_linotype_api_ErrRange), ("linotype/api.ErrKind", laid_linotype_api_ErrKind)] }
def ShiftPlaysSaid : Prop := shiftPlaysRow.holds Tryd.pinned (OpenSpec.ofChange shiftPlaysSpec)

/-- ITS FALSE NEIGHBOUR: 'it returns false'. Refute it at one input. -/
def shiftPlaysWrong : ChangeSpec := { name := "shiftPlays", fn := fun _ => fun
  | [d1, d2, d3] => { results := [.lit (.bool false)], args := [d1, d2, d3] }
  | _ => none }
def ShiftPlaysWrongFalsely : Prop := shiftPlaysRow.holds Tryd.pinned (OpenSpec.ofChange shiftPlaysWrong)

/-- 'linotypelaw27.ShiftBack': WHATEVER THE INPUT: true; the input reads as it did. -/
def shiftBackSpec : ChangeSpec := { name := "shiftBack", fn := fun _ => fun
  | [d1, d2, d3] => { results := [.lit (.bool true)], args := [d1, d2, d3] }
  | _ => none }
def shiftBackRow : OpenClaim := { program := "ytomfclkldmmmgaadoor", sum := "eb1a18b3dd5a88c501e63820fa8b8ce5c470f7b8fbd4b85e4c15d602122383b2", func := "linotype/linotypelaw27.ShiftBack", spec := "shiftBack", unfollowed := true, recurses := true, named := ["linotype/api.ErrRange", "linotype/api.ErrKind"], apart := false, laid := [("linotype/api.ErrRange", laid_linotype_api_ErrRange), ("linotype/api.ErrKind", laid_linotype_api_ErrKind)] }
def ShiftBackSaid : Prop := shiftBackRow.holds Tryd.pinned (OpenSpec.ofChange shiftBackSpec)

/-- ITS FALSE NEIGHBOUR: 'it returns false'. Refute it at one input. -/
def shiftBackWrong : ChangeSpec := { name := "shiftBack", fn := fun _ => fun
  | [d1, d2, d3] => { results := [.lit (.bool false)], args := [d1, d2, d3] }
  | _ => none }
def ShiftBackWrongFalsely : Prop := shiftBackRow.holds Tryd.pinned (OpenSpec.ofChange shiftBackWrong)

/-- 'linotypelaw28.FitResizes': WHATEVER THE INPUT: true; the input reads as it did. -/
def fitResizesSpec : ChangeSpec := { name := "fitResizes", fn := fun _ => fun
  | [d1, d2] => { results := [.lit (.bool true)], args := [d1, d2] }
  | _ => none }
def fitResizesRow : OpenClaim := { program := "ytomfclkldmmmgaadoor", sum := "eb1a18b3dd5a88c501e63820fa8b8ce5c470f7b8fbd4b85e4c15d602122383b2", func := "linotype/linotypelaw28.FitResizes", spec := "fitResizes", unfollowed := true, recurses := true, named := ["linotype/api.ErrRange", "linotype/api.ErrKind"], apart := false, laid := [("linotype/api.ErrRange", laid_linotype_api_ErrRange), ("linotype/api.ErrKind", laid_linotype_api_ErrKind)] }
def FitResizesSaid : Prop := fitResizesRow.holds Tryd.pinned (OpenSpec.ofChange fitResizesSpec)

/-- ITS FALSE NEIGHBOUR: 'it returns false'. Refute it at one input. -/
def fitResizesWrong : ChangeSpec := { name := "fitResizes", fn := fun _ => fun
  | [d1, d2] => { results := [.lit (.bool false)], args := [d1, d2] }
  | _ => none }
def FitResizesWrongFalsely : Prop := fitResizesRow.holds Tryd.pinned (OpenSpec.ofChange fitResizesWrong)

/-- 'linotypelaw28.FitSplits': WHATEVER THE INPUT: true; the input reads as it did. -/
def fitSplitsSpec : ChangeSpec := { name := "fitSplits", fn := fun _ => fun
  | [d1, d2] => { results := [.lit (.bool true)], args := [d1, d2] }
  | _ => none }
def fitSplitsRow : OpenClaim := { program := "ytomfclkldmmmgaadoor", sum := "eb1a18b3dd5a88c501e63820fa8b8ce5c470f7b8fbd4b85e4c15d602122383b2", func := "linotype/linotypelaw28.FitSplits", spec := "fitSplits", unfollowed := true, recurses := true, named := ["linotype/api.ErrRange", "linotype/api.ErrKind"], apart := false, laid := [("linotype/api.ErrRange", laid_linotype_api_ErrRange), ("linotype/api.ErrKind", laid_linotype_api_ErrKind)] }
def FitSplitsSaid : Prop := fitSplitsRow.holds Tryd.pinned (OpenSpec.ofChange fitSplitsSpec)

/-- ITS FALSE NEIGHBOUR: 'it returns false'. Refute it at one input. -/
def fitSplitsWrong : ChangeSpec := { name := "fitSplits", fn := fun _ => fun
  | [d1, d2] => { results := [.lit (.bool false)], args := [d1, d2] }
  | _ => none }
def FitSplitsWrongFalsely : Prop := fitSplitsRow.holds Tryd.pinned (OpenSpec.ofChange fitSplitsWrong)

/-- 'linotypelaw28.FitJoins': WHATEVER THE INPUT: true; the input reads as it did. -/
def fitJoinsSpec : ChangeSpec := { name := "fitJoins", fn := fun _ => fun
  | [d1, d2] => { results := [.lit (.bool true)], args := [d1, d2] }
  | _ => none }
def fitJoinsRow : OpenClaim := { program := "ytomfclkldmmmgaadoor", sum := "eb1a18b3dd5a88c501e63820fa8b8ce5c470f7b8fbd4b85e4c15d602122383b2", func := "linotype/linotypelaw28.FitJoins", spec := "fitJoins", unfollowed := true, recurses := true, named := ["linotype/api.ErrRange", "linotype/api.ErrKind"], apart := false, laid := [("linotype/api.ErrRange", laid_linotype_api_ErrRange), ("linotype/api.ErrKind", laid_linotype_api_ErrKind)] }
def FitJoinsSaid : Prop := fitJoinsRow.holds Tryd.pinned (OpenSpec.ofChange fitJoinsSpec)

/-- ITS FALSE NEIGHBOUR: 'it returns false'. Refute it at one input. -/
def fitJoinsWrong : ChangeSpec := { name := "fitJoins", fn := fun _ => fun
  | [d1, d2] => { results := [.lit (.bool false)], args := [d1, d2] }
  | _ => none }
def FitJoinsWrongFalsely : Prop := fitJoinsRow.holds Tryd.pinned (OpenSpec.ofChange fitJoinsWrong)

/-- 'linotypelaw30.RowtextTells': WHATEVER THE INPUT: true; the input reads as it did. -/
def rowtextTellsSpec : ChangeSpec := { name := "rowtextTells", fn := fun _ => fun
  | [d] => { results := [.lit (.bool true)], args := [d] }
  | _ => none }
def rowtextTellsRow : OpenClaim := { program := "ytomfclkldmmmgaadoor", sum := "eb1a18b3dd5a88c501e63820fa8b8ce5c470f7b8fbd4b85e4c15d602122383b2", func := "linotype/linotypelaw30.RowtextTells", spec := "rowtextTells", unfollowed := true, recurses := true, named := ["linotype/api.ErrRange", "linotype/api.ErrKind"], apart := false, laid := [("linotype/api.ErrRange", laid_linotype_api_ErrRange), ("linotype/api.ErrKind", laid_linotype_api_ErrKind)] }
def RowtextTellsSaid : Prop := rowtextTellsRow.holds Tryd.pinned (OpenSpec.ofChange rowtextTellsSpec)

/-- ITS FALSE NEIGHBOUR: 'it returns false'. Refute it at one input. -/
def rowtextTellsWrong : ChangeSpec := { name := "rowtextTells", fn := fun _ => fun
  | [d] => { results := [.lit (.bool false)], args := [d] }
  | _ => none }
def RowtextTellsWrongFalsely : Prop := rowtextTellsRow.holds Tryd.pinned (OpenSpec.ofChange rowtextTellsWrong)

/-- 'linotypelaw32.GridMakes': WHATEVER THE INPUT: true; the input reads as it did. -/
def gridMakesSpec : ChangeSpec := { name := "gridMakes", fn := fun _ => fun
  | [d1, d2, d3] => { results := [.lit (.bool true)], args := [d1, d2, d3] }
  | _ => none }
def gridMakesRow : OpenClaim := { program := "ytomfclkldmmmgaadoor", sum := "eb1a18b3dd5a88c501e63820fa8b8ce5c470f7b8fbd4b85e4c15d602122383b2", func := "linotype/linotypelaw32.GridMakes", spec := "gridMakes", inPlace := ["internal/reflectlite.TypeOf", "internal/reflectlite.ValueOf", "(internal/reflectlite.Value).Type", "(internal/reflectlite.Value).IsNil", "(internal/reflectlite.Value).Elem", "(internal/reflectlite.Value).Set"], unfollowed := true, recurses := true, named := ["linotype/api.ErrRange", "linotype/api.ErrKind", "linotype/api.ErrScalar", "linotype/api.ErrForm", "linotype/api.ErrLong", "linotype/api.ErrWord", "linotype/api.ErrFull", "linotype/api.ErrNone", "errors.errorType"], apart := false, laid := [("errors.errorType", laid_errors_errorType), ("linotype/api.ErrScalar", laid_linotype_api_ErrScalar), ("linotype/api.ErrForm", laid_linotype_api_ErrForm), ("linotype/api.ErrRange", laid_linotype_api_ErrRange), ("linotype/api.ErrLong", laid_linotype_api_ErrLong), ("linotype/api.ErrKind", laid_linotype_api_ErrKind), ("linotype/api.ErrWord", laid_linotype_api_ErrWord), ("linotype/api.ErrFull", laid_linotype_api_ErrFull), ("linotype/api.ErrNone", laid_linotype_api_ErrNone)] }
def GridMakesSaid : Prop := gridMakesRow.holds Tryd.pinned (OpenSpec.ofChange gridMakesSpec)

/-- ITS FALSE NEIGHBOUR: 'it returns false'. Refute it at one input. -/
def gridMakesWrong : ChangeSpec := { name := "gridMakes", fn := fun _ => fun
  | [d1, d2, d3] => { results := [.lit (.bool false)], args := [d1, d2, d3] }
  | _ => none }
def GridMakesWrongFalsely : Prop := gridMakesRow.holds Tryd.pinned (OpenSpec.ofChange gridMakesWrong)

/- THE SECOND FORM. 'bulk': how many values and letters a reading holds, each counted each time it is reached (what is shared counts as often as it is met; a slice's spare places count too). A statement '..UptoSaid' is the law's where the arguments, and the package variables that the reading takes, are together of bulk at most 1048576: NARROWER than '..Said'. Prove '..Said' where nothing that the law and all that it calls make is longer than what came in: it says more and counts as full. Else prove '..UptoSaid'. A law counts once. -/
mutual
def uptoBulk {H : Type} : DataW H → Nat
  | .lit (.string bytes) => bytes.length + 1
  | .lit _ => 1
  | .nil => 1
  | .ptr d => uptoBulk d + 1
  | .slice elems spare => uptoBulkAll elems + uptoBulkAll spare + 1
  | .agg parts => uptoBulkAll parts + 1
  | .iface _ d => uptoBulk d + 1
  | .map entries => uptoBulkEntries entries + 1
  | .held _ => 1
def uptoBulkAll {H : Type} : List (DataW H) → Nat
  | [] => 0
  | d :: r => uptoBulk d + uptoBulkAll r
def uptoBulkEntries {H : Type} : List (Lit × DataW H) → Nat
  | [] => 0
  | x :: r => uptoBulkEntry x + uptoBulkEntries r
def uptoBulkEntry {H : Type} : Lit × DataW H → Nat
  | (.string bytes, d) => bytes.length + uptoBulk d + 1
  | (_, d) => uptoBulk d + 1
 end
def uptoSmall : (H : Type) → List (DataW H) → Bool := fun _ ds => decide (uptoBulkAll ds ≤ 1048576)
def OpenSpec.upto (s : _root_.Go.ChangeSpec) : _root_.Go.OpenSpec := { _root_.Go.OpenSpec.ofChange s with cond := some uptoSmall }

/-- 'linotypelaw24.RowOwn', WHERE WHAT IT READS IS OF BULK AT MOST 1048576: true; the input reads as it did. -/
def rowOwnUptoRow : OpenClaim := { program := "ytomfclkldmmmgaadoor", sum := "eb1a18b3dd5a88c501e63820fa8b8ce5c470f7b8fbd4b85e4c15d602122383b2", func := "linotype/linotypelaw24.RowOwn", spec := "rowOwn", unfollowed := true, recurses := true, named := ["linotype/api.ErrRange", "linotype/api.ErrKind"], apart := false, laid := [("linotype/api.ErrRange", laid_linotype_api_ErrRange), ("linotype/api.ErrKind", laid_linotype_api_ErrKind)], narrowed := true }
def RowOwnUptoSaid : Prop := rowOwnUptoRow.holds Tryd.pinned (OpenSpec.upto rowOwnSpec)

/-- 'linotypelaw25.MarkPlays', WHERE WHAT IT READS IS OF BULK AT MOST 1048576: true; the input reads as it did. -/
def markPlaysUptoRow : OpenClaim := { program := "ytomfclkldmmmgaadoor", sum := "eb1a18b3dd5a88c501e63820fa8b8ce5c470f7b8fbd4b85e4c15d602122383b2", func := "linotype/linotypelaw25.MarkPlays", spec := "markPlays", inPlace := ["internal/reflectlite.TypeOf"], unfollowed := true, recurses := true, named := ["linotype/api.ErrRange", "linotype/api.ErrKind", "linotype/api.ErrScalar", "linotype/api.ErrForm", "linotype/api.ErrLong", "linotype/api.ErrWord", "linotype/api.ErrFull", "linotype/api.ErrNone"], apart := false, laid := [("linotype/api.ErrScalar", laid_linotype_api_ErrScalar), ("linotype/api.ErrForm", laid_linotype_api_ErrForm), ("linotype/api.ErrRange", laid_linotype_api_ErrRange), ("linotype/api.ErrLong", laid_linotype_api_ErrLong), ("linotype/api.ErrKind", laid_linotype_api_ErrKind), ("linotype/api.ErrWord", laid_linotype_api_ErrWord), ("linotype/api.ErrFull", laid_linotype_api_ErrFull), ("linotype/api.ErrNone", laid_linotype_api_ErrNone)], narrowed := true }
def MarkPlaysUptoSaid : Prop := markPlaysUptoRow.holds Tryd.pinned (OpenSpec.upto markPlaysSpec)

/-- 'linotypelaw25.MarkWidens', WHERE WHAT IT READS IS OF BULK AT MOST 1048576: true; the input reads as it did. -/
def markWidensUptoRow : OpenClaim := { program := "ytomfclkldmmmgaadoor", sum := "eb1a18b3dd5a88c501e63820fa8b8ce5c470f7b8fbd4b85e4c15d602122383b2", func := "linotype/linotypelaw25.MarkWidens", spec := "markWidens", unfollowed := true, recurses := true, named := ["linotype/api.ErrRange", "linotype/api.ErrKind"], apart := false, laid := [("linotype/api.ErrRange", laid_linotype_api_ErrRange), ("linotype/api.ErrKind", laid_linotype_api_ErrKind)], narrowed := true }
def MarkWidensUptoSaid : Prop := markWidensUptoRow.holds Tryd.pinned (OpenSpec.upto markWidensSpec)

/-- 'linotypelaw26.ErasePlays', WHERE WHAT IT READS IS OF BULK AT MOST 1048576: true; the input reads as it did. -/
def erasePlaysUptoRow : OpenClaim := { program := "ytomfclkldmmmgaadoor", sum := "eb1a18b3dd5a88c501e63820fa8b8ce5c470f7b8fbd4b85e4c15d602122383b2", func := "linotype/linotypelaw26.ErasePlays", spec := "erasePlays", unfollowed := true, recurses := true, named := ["linotype/api.ErrRange", "linotype/api.ErrKind"], apart := false, laid := [("linotype/api.ErrRange", laid_linotype_api_ErrRange), ("linotype/api.ErrKind", laid_linotype_api_ErrKind)], narrowed := true }
def ErasePlaysUptoSaid : Prop := erasePlaysUptoRow.holds Tryd.pinned (OpenSpec.upto erasePlaysSpec)

/-- 'linotypelaw26.EraseFar', WHERE WHAT IT READS IS OF BULK AT MOST 1048576: true; the input reads as it did. -/
def eraseFarUptoRow : OpenClaim := { program := "ytomfclkldmmmgaadoor", sum := "eb1a18b3dd5a88c501e63820fa8b8ce5c470f7b8fbd4b85e4c15d602122383b2", func := "linotype/linotypelaw26.EraseFar", spec := "eraseFar", unfollowed := true, recurses := true, named := ["linotype/api.ErrRange", "linotype/api.ErrKind"], apart := false, laid := [("linotype/api.ErrRange", laid_linotype_api_ErrRange), ("linotype/api.ErrKind", laid_linotype_api_ErrKind)], narrowed := true }
def EraseFarUptoSaid : Prop := eraseFarUptoRow.holds Tryd.pinned (OpenSpec.upto eraseFarSpec)

/-- 'linotypelaw27.ShiftPlays', WHERE WHAT IT READS IS OF BULK AT MOST 1048576: true; the input reads as it did. -/
def shiftPlaysUptoRow : OpenClaim := { program := "ytomfclkldmmmgaadoor", sum := "eb1a18b3dd5a88c501e63820fa8b8ce5c470f7b8fbd4b85e4c15d602122383b2", func := "linotype/linotypelaw27.ShiftPlays", spec := "shiftPlays", unfollowed := true, recurses := true, named := ["linotype/api.ErrRange", "linotype/api.ErrKind"], apart := false, laid := [("linotype/api.ErrRange", laid_linotype_api_ErrRange), ("linotype/api.ErrKind", laid_linotype_api_ErrKind)], narrowed := true }
def ShiftPlaysUptoSaid : Prop := shiftPlaysUptoRow.holds Tryd.pinned (OpenSpec.upto shiftPlaysSpec)

/-- 'linotypelaw27.ShiftBack', WHERE WHAT IT READS IS OF BULK AT MOST 1048576: true; the input reads as it did. -/
def shiftBackUptoRow : OpenClaim := { program := "ytomfclkldmmmgaadoor", sum := "eb1a18b3dd5a88c501e63820fa8b8ce5c470f7b8fbd4b85e4c15d602122383b2", func := "linotype/linotypelaw27.ShiftBack", spec := "shiftBack", unfollowed := true, recurses := true, named := ["linotype/api.ErrRange", "linotype/api.ErrKind"], apart := false, laid := [("linotype/api.ErrRange", laid_linotype_api_ErrRange), ("linotype/api.ErrKind", laid_linotype_api_ErrKind)], narrowed := true }
def ShiftBackUptoSaid : Prop := shiftBackUptoRow.holds Tryd.pinned (OpenSpec.upto shiftBackSpec)

/-- 'linotypelaw28.FitResizes', WHERE WHAT IT READS IS OF BULK AT MOST 1048576: true; the input reads as it did. -/
def fitResizesUptoRow : OpenClaim := { program := "ytomfclkldmmmgaadoor", sum := "eb1a18b3dd5a88c501e63820fa8b8ce5c470f7b8fbd4b85e4c15d602122383b2", func := "linotype/linotypelaw28.FitResizes", spec := "fitResizes", unfollowed := true, recurses := true, named := ["linotype/api.ErrRange", "linotype/api.ErrKind"], apart := false, laid := [("linotype/api.ErrRange", laid_linotype_api_ErrRange), ("linotype/api.ErrKind", laid_linotype_api_ErrKind)], narrowed := true }
def FitResizesUptoSaid : Prop := fitResizesUptoRow.holds Tryd.pinned (OpenSpec.upto fitResizesSpec)

/-- 'linotypelaw28.FitSplits', WHERE WHAT IT READS IS OF BULK AT MOST 1048576: true; the input reads as it did. -/
def fitSplitsUptoRow : OpenClaim := { program := "ytomfclkldmmmgaadoor", sum := "eb1a18b3dd5a88c501e63820fa8b8ce5c470f7b8fbd4b85e4c15d602122383b2", func := "linotype/linotypelaw28.FitSplits", spec := "fitSplits", unfollowed := true, recurses := true, named := ["linotype/api.ErrRange", "linotype/api.ErrKind"], apart := false, laid := [("linotype/api.ErrRange", laid_linotype_api_ErrRange), ("linotype/api.ErrKind", laid_linotype_api_ErrKind)], narrowed := true }
def FitSplitsUptoSaid : Prop := fitSplitsUptoRow.holds Tryd.pinned (OpenSpec.upto fitSplitsSpec)

/-- 'linotypelaw28.FitJoins', WHERE WHAT IT READS IS OF BULK AT MOST 1048576: true; the input reads as it did. -/
def fitJoinsUptoRow : OpenClaim := { program := "ytomfclkldmmmgaadoor", sum := "eb1a18b3dd5a88c501e63820fa8b8ce5c470f7b8fbd4b85e4c15d602122383b2", func := "linotype/linotypelaw28.FitJoins", spec := "fitJoins", unfollowed := true, recurses := true, named := ["linotype/api.ErrRange", "linotype/api.ErrKind"], apart := false, laid := [("linotype/api.ErrRange", laid_linotype_api_ErrRange), ("linotype/api.ErrKind", laid_linotype_api_ErrKind)], narrowed := true }
def FitJoinsUptoSaid : Prop := fitJoinsUptoRow.holds Tryd.pinned (OpenSpec.upto fitJoinsSpec)

/-- 'linotypelaw30.RowtextTells', WHERE WHAT IT READS IS OF BULK AT MOST 1048576: true; the input reads as it did. -/
def rowtextTellsUptoRow : OpenClaim := { program := "ytomfclkldmmmgaadoor", sum := "eb1a18b3dd5a88c501e63820fa8b8ce5c470f7b8fbd4b85e4c15d602122383b2", func := "linotype/linotypelaw30.RowtextTells", spec := "rowtextTells", unfollowed := true, recurses := true, named := ["linotype/api.ErrRange", "linotype/api.ErrKind"], apart := false, laid := [("linotype/api.ErrRange", laid_linotype_api_ErrRange), ("linotype/api.ErrKind", laid_linotype_api_ErrKind)], narrowed := true }
def RowtextTellsUptoSaid : Prop := rowtextTellsUptoRow.holds Tryd.pinned (OpenSpec.upto rowtextTellsSpec)

/-- 'linotypelaw32.GridMakes', WHERE WHAT IT READS IS OF BULK AT MOST 1048576: true; the input reads as it did. -/
def gridMakesUptoRow : OpenClaim := { program := "ytomfclkldmmmgaadoor", sum := "eb1a18b3dd5a88c501e63820fa8b8ce5c470f7b8fbd4b85e4c15d602122383b2", func := "linotype/linotypelaw32.GridMakes", spec := "gridMakes", inPlace := ["internal/reflectlite.TypeOf", "internal/reflectlite.ValueOf", "(internal/reflectlite.Value).Type", "(internal/reflectlite.Value).IsNil", "(internal/reflectlite.Value).Elem", "(internal/reflectlite.Value).Set"], unfollowed := true, recurses := true, named := ["linotype/api.ErrRange", "linotype/api.ErrKind", "linotype/api.ErrScalar", "linotype/api.ErrForm", "linotype/api.ErrLong", "linotype/api.ErrWord", "linotype/api.ErrFull", "linotype/api.ErrNone", "errors.errorType"], apart := false, laid := [("errors.errorType", laid_errors_errorType), ("linotype/api.ErrScalar", laid_linotype_api_ErrScalar), ("linotype/api.ErrForm", laid_linotype_api_ErrForm), ("linotype/api.ErrRange", laid_linotype_api_ErrRange), ("linotype/api.ErrLong", laid_linotype_api_ErrLong), ("linotype/api.ErrKind", laid_linotype_api_ErrKind), ("linotype/api.ErrWord", laid_linotype_api_ErrWord), ("linotype/api.ErrFull", laid_linotype_api_ErrFull), ("linotype/api.ErrNone", laid_linotype_api_ErrNone)], narrowed := true }
def GridMakesUptoSaid : Prop := gridMakesUptoRow.holds Tryd.pinned (OpenSpec.upto gridMakesSpec)

end Rows
end Go.Proofs.YtomfclkldmmmgaaDoor
