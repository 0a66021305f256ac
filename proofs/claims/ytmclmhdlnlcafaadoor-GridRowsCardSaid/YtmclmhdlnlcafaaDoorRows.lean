/-
  NARROWER THAN 'FOR EVERY INPUT', by the rows' own cells (each row's printed sentence says how): RowtextTells: laid · RowtextFinds: laid · RowtextAlike: laid · ItemsRead: laid · ItemsMake: laid · RowOwn: laid · GridMakes: laid · GridRows: laid · ScrollPlays: laid · ScrollFar: laid.
  DERIVED. THE GIVEN ROWS OF THIS SEAT. 10 by the template 'for every input the law returns true; each argument reads behind the call as it read before'; 0 by the template 'total and deterministic' (their statements: YtmclmhdlnlcafaaDoorTotals.lean).
  GIVEN WITH THE SEED: the statements are not yours to turn. If you find one false, say at which input.
  Laid BY PROGRAM, IN A SANDBOX (cutbox-rows.mjs): the forced cells as the released guide's own fill.sh prints them over the translation fdd59612bedd4612… (all of the seat's roots in one cut). By AI agents, Wed Nov 11 2026. No macro, syntax, notation, axiom, sorry.
-/
import Derived.Test.YtmclmhdlnlcafaaDoorChecked
import GoSem.Claim
import GoSem.ClaimJoined
import GoSem.ClaimMapViews
import Derived.JoinedTies
import Derived.KernelRfl
namespace Go.Proofs.YtmclmhdlnlcafaaDoor
/- THE CELL 'sum', in the pinned program and in every row, IS THE sha256 OF THE DUMP (.gsa) THAT YtmclmhdlnlcafaaDoorProg.lean LOADS. Nothing in Lean hashes anything: it is a label: what it is worth is what the hold of that sum in a sandbox is worth. -/
noncomputable def Tryd.pinned : Pinned := { name := "ytmclmhdlnlcafaadoor", sum := "fdd59612bedd461200e6ca71628b86a0c3ec36f4f7eee58e8909104476ebfe52", checked := Tryd.checked }
namespace Rows
def none {H : Type} : Left H := { results := [], args := [] }

/- WHAT THE LISTED PACKAGE-LEVEL VARIABLES READ AS WHEN THE CALL BEGINS. Each datum BY PROGRAM (the guide's laid-datum.mjs) off the statement by which the dump's own 'gosem.cut.vars' lays the variable. In a bare row this is a premise. The card (YtmclmhdlnlcafaaDoorCards.lean) ties it to the program's text. -/
def laid_linotype_api_ErrRange {H : Type} : DataW H := .iface "*errors.errorString" (.ptr (.agg [.lit (.string [114, 97, 110, 103, 101])]))
def laid_linotype_api_ErrKind {H : Type} : DataW H := .iface "*errors.errorString" (.ptr (.agg [.lit (.string [107, 105, 110, 100])]))
def laid_linotype_api_ErrScalar {H : Type} : DataW H := .iface "*errors.errorString" (.ptr (.agg [.lit (.string [115, 99, 97, 108, 97, 114])]))
def laid_linotype_api_ErrForm {H : Type} : DataW H := .iface "*errors.errorString" (.ptr (.agg [.lit (.string [102, 111, 114, 109])]))
def laid_linotype_api_ErrLong {H : Type} : DataW H := .iface "*errors.errorString" (.ptr (.agg [.lit (.string [108, 111, 110, 103])]))
def laid_linotype_api_ErrWord {H : Type} : DataW H := .iface "*errors.errorString" (.ptr (.agg [.lit (.string [119, 111, 114, 100])]))
def laid_linotype_api_ErrFull {H : Type} : DataW H := .iface "*errors.errorString" (.ptr (.agg [.lit (.string [102, 117, 108, 108])]))
def laid_linotype_api_ErrNone {H : Type} : DataW H := .iface "*errors.errorString" (.ptr (.agg [.lit (.string [110, 111, 110, 101])]))
def laid_errors_errorType {H : Type} : DataW H := .iface "internal/reflectlite.rtype" (.agg [.ptr (.lit (.string [101, 114, 114, 111, 114]))])

/-- 'linotypelaw30.RowtextTells': WHATEVER THE INPUT: true; the input reads as it did. -/
def rowtextTellsSpec : ChangeSpec := { name := "rowtextTells", fn := fun _ => fun
  | [d] => { results := [.lit (.bool true)], args := [d] }
  | _ => none }
def rowtextTellsRow : OpenClaim := { program := "ytmclmhdlnlcafaadoor", sum := "fdd59612bedd461200e6ca71628b86a0c3ec36f4f7eee58e8909104476ebfe52", func := "linotype/linotypelaw30.RowtextTells", spec := "rowtextTells", unfollowed := true, recurses := true, named := ["linotype/api.ErrRange", "linotype/api.ErrKind"], apart := false, laid := [("linotype/api.ErrRange", laid_linotype_api_ErrRange), ("linotype/api.ErrKind", laid_linotype_api_ErrKind)] }
def RowtextTellsSaid : Prop := rowtextTellsRow.holds Tryd.pinned (OpenSpec.ofChange rowtextTellsSpec)

/-- ITS FALSE NEIGHBOUR: 'it returns false'. Refute it at one input. -/
def rowtextTellsWrong : ChangeSpec := { name := "rowtextTells", fn := fun _ => fun
  | [d] => { results := [.lit (.bool false)], args := [d] }
  | _ => none }
def RowtextTellsWrongFalsely : Prop := rowtextTellsRow.holds Tryd.pinned (OpenSpec.ofChange rowtextTellsWrong)

/-- 'linotypelaw30.RowtextFinds': WHATEVER THE INPUT: true; the input reads as it did. -/
def rowtextFindsSpec : ChangeSpec := { name := "rowtextFinds", fn := fun _ => fun
  | [d1, d2] => { results := [.lit (.bool true)], args := [d1, d2] }
  | _ => none }
def rowtextFindsRow : OpenClaim := { program := "ytmclmhdlnlcafaadoor", sum := "fdd59612bedd461200e6ca71628b86a0c3ec36f4f7eee58e8909104476ebfe52", func := "linotype/linotypelaw30.RowtextFinds", spec := "rowtextFinds", unfollowed := true, recurses := true, named := ["linotype/api.ErrRange", "linotype/api.ErrKind"], apart := false, laid := [("linotype/api.ErrRange", laid_linotype_api_ErrRange), ("linotype/api.ErrKind", laid_linotype_api_ErrKind)] }
def RowtextFindsSaid : Prop := rowtextFindsRow.holds Tryd.pinned (OpenSpec.ofChange rowtextFindsSpec)

/-- ITS FALSE NEIGHBOUR: 'it returns false'. Refute it at one input. -/
def rowtextFindsWrong : ChangeSpec := { name := "rowtextFinds", fn := fun _ => fun
  | [d1, d2] => { results := [.lit (.bool false)], args := [d1, d2] }
  | _ => none }
def RowtextFindsWrongFalsely : Prop := rowtextFindsRow.holds Tryd.pinned (OpenSpec.ofChange rowtextFindsWrong)

/-- 'linotypelaw30.RowtextAlike': WHATEVER THE INPUT: true; the input reads as it did. -/
def rowtextAlikeSpec : ChangeSpec := { name := "rowtextAlike", fn := fun _ => fun
  | [d] => { results := [.lit (.bool true)], args := [d] }
  | _ => none }
def rowtextAlikeRow : OpenClaim := { program := "ytmclmhdlnlcafaadoor", sum := "fdd59612bedd461200e6ca71628b86a0c3ec36f4f7eee58e8909104476ebfe52", func := "linotype/linotypelaw30.RowtextAlike", spec := "rowtextAlike", unfollowed := true, recurses := true, named := ["linotype/api.ErrRange", "linotype/api.ErrKind"], apart := false, laid := [("linotype/api.ErrRange", laid_linotype_api_ErrRange), ("linotype/api.ErrKind", laid_linotype_api_ErrKind)] }
def RowtextAlikeSaid : Prop := rowtextAlikeRow.holds Tryd.pinned (OpenSpec.ofChange rowtextAlikeSpec)

/-- ITS FALSE NEIGHBOUR: 'it returns false'. Refute it at one input. -/
def rowtextAlikeWrong : ChangeSpec := { name := "rowtextAlike", fn := fun _ => fun
  | [d] => { results := [.lit (.bool false)], args := [d] }
  | _ => none }
def RowtextAlikeWrongFalsely : Prop := rowtextAlikeRow.holds Tryd.pinned (OpenSpec.ofChange rowtextAlikeWrong)

/-- 'linotypelaw29.ItemsRead': WHATEVER THE INPUT: true; the input reads as it did. -/
def itemsReadSpec : ChangeSpec := { name := "itemsRead", fn := fun _ => fun
  | [d] => { results := [.lit (.bool true)], args := [d] }
  | _ => none }
def itemsReadRow : OpenClaim := { program := "ytmclmhdlnlcafaadoor", sum := "fdd59612bedd461200e6ca71628b86a0c3ec36f4f7eee58e8909104476ebfe52", func := "linotype/linotypelaw29.ItemsRead", spec := "itemsRead", inPlace := ["internal/reflectlite.TypeOf"], unfollowed := true, recurses := true, named := ["linotype/api.ErrKind", "linotype/api.ErrScalar", "linotype/api.ErrForm", "linotype/api.ErrRange", "linotype/api.ErrLong", "linotype/api.ErrWord", "linotype/api.ErrFull", "linotype/api.ErrNone"], apart := false, laid := [("linotype/api.ErrScalar", laid_linotype_api_ErrScalar), ("linotype/api.ErrForm", laid_linotype_api_ErrForm), ("linotype/api.ErrRange", laid_linotype_api_ErrRange), ("linotype/api.ErrLong", laid_linotype_api_ErrLong), ("linotype/api.ErrKind", laid_linotype_api_ErrKind), ("linotype/api.ErrWord", laid_linotype_api_ErrWord), ("linotype/api.ErrFull", laid_linotype_api_ErrFull), ("linotype/api.ErrNone", laid_linotype_api_ErrNone)] }
def ItemsReadSaid : Prop := itemsReadRow.holds Tryd.pinned (OpenSpec.ofChange itemsReadSpec)

/-- ITS FALSE NEIGHBOUR: 'it returns false'. Refute it at one input. -/
def itemsReadWrong : ChangeSpec := { name := "itemsRead", fn := fun _ => fun
  | [d] => { results := [.lit (.bool false)], args := [d] }
  | _ => none }
def ItemsReadWrongFalsely : Prop := itemsReadRow.holds Tryd.pinned (OpenSpec.ofChange itemsReadWrong)

/-- 'linotypelaw29.ItemsMake': WHATEVER THE INPUT: true; the input reads as it did. -/
def itemsMakeSpec : ChangeSpec := { name := "itemsMake", fn := fun _ => fun
  | [d] => { results := [.lit (.bool true)], args := [d] }
  | _ => none }
def itemsMakeRow : OpenClaim := { program := "ytmclmhdlnlcafaadoor", sum := "fdd59612bedd461200e6ca71628b86a0c3ec36f4f7eee58e8909104476ebfe52", func := "linotype/linotypelaw29.ItemsMake", spec := "itemsMake", inPlace := ["internal/reflectlite.TypeOf", "internal/reflectlite.ValueOf", "(internal/reflectlite.Value).Type", "(internal/reflectlite.Value).IsNil", "(internal/reflectlite.Value).Elem", "(internal/reflectlite.Value).Set"], unfollowed := true, recurses := true, named := ["linotype/api.ErrKind", "linotype/api.ErrScalar", "linotype/api.ErrForm", "linotype/api.ErrRange", "linotype/api.ErrLong", "linotype/api.ErrWord", "linotype/api.ErrFull", "linotype/api.ErrNone", "errors.errorType"], apart := false, laid := [("errors.errorType", laid_errors_errorType), ("linotype/api.ErrScalar", laid_linotype_api_ErrScalar), ("linotype/api.ErrForm", laid_linotype_api_ErrForm), ("linotype/api.ErrRange", laid_linotype_api_ErrRange), ("linotype/api.ErrLong", laid_linotype_api_ErrLong), ("linotype/api.ErrKind", laid_linotype_api_ErrKind), ("linotype/api.ErrWord", laid_linotype_api_ErrWord), ("linotype/api.ErrFull", laid_linotype_api_ErrFull), ("linotype/api.ErrNone", laid_linotype_api_ErrNone)] }
def ItemsMakeSaid : Prop := itemsMakeRow.holds Tryd.pinned (OpenSpec.ofChange itemsMakeSpec)

/-- ITS FALSE NEIGHBOUR: 'it returns false'. Refute it at one input. -/
def itemsMakeWrong : ChangeSpec := { name := "itemsMake", fn := fun _ => fun
  | [d] => { results := [.lit (.bool false)], args := [d] }
  | _ => none }
def ItemsMakeWrongFalsely : Prop := itemsMakeRow.holds Tryd.pinned (OpenSpec.ofChange itemsMakeWrong)

/-- 'linotypelaw24.RowOwn': WHATEVER THE INPUT: true; the input reads as it did. -/
def rowOwnSpec : ChangeSpec := { name := "rowOwn", fn := fun _ => fun
  | [d] => { results := [.lit (.bool true)], args := [d] }
  | _ => none }
def rowOwnRow : OpenClaim := { program := "ytmclmhdlnlcafaadoor", sum := "fdd59612bedd461200e6ca71628b86a0c3ec36f4f7eee58e8909104476ebfe52", func := "linotype/linotypelaw24.RowOwn", spec := "rowOwn", unfollowed := true, recurses := true, named := ["linotype/api.ErrRange", "linotype/api.ErrKind"], apart := false, laid := [("linotype/api.ErrRange", laid_linotype_api_ErrRange), ("linotype/api.ErrKind", laid_linotype_api_ErrKind)] }
def RowOwnSaid : Prop := rowOwnRow.holds Tryd.pinned (OpenSpec.ofChange rowOwnSpec)

/-- ITS FALSE NEIGHBOUR: 'it returns false'. Refute it at one input. -/
def rowOwnWrong : ChangeSpec := { name := "rowOwn", fn := fun _ => fun
  | [d] => { results := [.lit (.bool false)], args := [d] }
  | _ => none }
def RowOwnWrongFalsely : Prop := rowOwnRow.holds Tryd.pinned (OpenSpec.ofChange rowOwnWrong)

/-- 'linotypelaw32.GridMakes': WHATEVER THE INPUT: true; the input reads as it did. -/
def gridMakesSpec : ChangeSpec := { name := "gridMakes", fn := fun _ => fun
  | [d1, d2, d3] => { results := [.lit (.bool true)], args := [d1, d2, d3] }
  | _ => none }
def gridMakesRow : OpenClaim := { program := "ytmclmhdlnlcafaadoor", sum := "fdd59612bedd461200e6ca71628b86a0c3ec36f4f7eee58e8909104476ebfe52", func := "linotype/linotypelaw32.GridMakes", spec := "gridMakes", inPlace := ["internal/reflectlite.TypeOf", "internal/reflectlite.ValueOf", "(internal/reflectlite.Value).Type", "(internal/reflectlite.Value).IsNil", "(internal/reflectlite.Value).Elem", "(internal/reflectlite.Value).Set"], unfollowed := true, recurses := true, named := ["linotype/api.ErrRange", "linotype/api.ErrKind", "linotype/api.ErrScalar", "linotype/api.ErrForm", "linotype/api.ErrLong", "linotype/api.ErrWord", "linotype/api.ErrFull", "linotype/api.ErrNone", "errors.errorType"], apart := false, laid := [("errors.errorType", laid_errors_errorType), ("linotype/api.ErrScalar", laid_linotype_api_ErrScalar), ("linotype/api.ErrForm", laid_linotype_api_ErrForm), ("linotype/api.ErrRange", laid_linotype_api_ErrRange), ("linotype/api.ErrLong", laid_linotype_api_ErrLong), ("linotype/api.ErrKind", laid_linotype_api_ErrKind), ("linotype/api.ErrWord", laid_linotype_api_ErrWord), ("linotype/api.ErrFull", laid_linotype_api_ErrFull), ("linotype/api.ErrNone", laid_linotype_api_ErrNone)] }
def GridMakesSaid : Prop := gridMakesRow.holds Tryd.pinned (OpenSpec.ofChange gridMakesSpec)

/-- ITS FALSE NEIGHBOUR: 'it returns false'. Refute it at one input. -/
def gridMakesWrong : ChangeSpec := { name := "gridMakes", fn := fun _ => fun
  | [d1, d2, d3] => { results := [.lit (.bool false)], args := [d1, d2, d3] }
  | _ => none }
def GridMakesWrongFalsely : Prop := gridMakesRow.holds Tryd.pinned (OpenSpec.ofChange gridMakesWrong)

/-- 'linotypelaw32.GridRows': WHATEVER THE INPUT: true; the input reads as it did. -/
def gridRowsSpec : ChangeSpec := { name := "gridRows", fn := fun _ => fun
  | [d1, d2, d3] => { results := [.lit (.bool true)], args := [d1, d2, d3] }
  | _ => none }
def gridRowsRow : OpenClaim := { program := "ytmclmhdlnlcafaadoor", sum := "fdd59612bedd461200e6ca71628b86a0c3ec36f4f7eee58e8909104476ebfe52", func := "linotype/linotypelaw32.GridRows", spec := "gridRows", unfollowed := true, recurses := true, named := ["linotype/api.ErrRange", "linotype/api.ErrKind"], apart := false, laid := [("linotype/api.ErrRange", laid_linotype_api_ErrRange), ("linotype/api.ErrKind", laid_linotype_api_ErrKind)] }
def GridRowsSaid : Prop := gridRowsRow.holds Tryd.pinned (OpenSpec.ofChange gridRowsSpec)

/-- ITS FALSE NEIGHBOUR: 'it returns false'. Refute it at one input. -/
def gridRowsWrong : ChangeSpec := { name := "gridRows", fn := fun _ => fun
  | [d1, d2, d3] => { results := [.lit (.bool false)], args := [d1, d2, d3] }
  | _ => none }
def GridRowsWrongFalsely : Prop := gridRowsRow.holds Tryd.pinned (OpenSpec.ofChange gridRowsWrong)

/-- 'linotypelaw33.ScrollPlays': WHATEVER THE INPUT: true; the input reads as it did. -/
def scrollPlaysSpec : ChangeSpec := { name := "scrollPlays", fn := fun _ => fun
  | [d1, d2] => { results := [.lit (.bool true)], args := [d1, d2] }
  | _ => none }
def scrollPlaysRow : OpenClaim := { program := "ytmclmhdlnlcafaadoor", sum := "fdd59612bedd461200e6ca71628b86a0c3ec36f4f7eee58e8909104476ebfe52", func := "linotype/linotypelaw33.ScrollPlays", spec := "scrollPlays", unfollowed := true, recurses := true, named := ["linotype/api.ErrRange", "linotype/api.ErrKind"], apart := false, laid := [("linotype/api.ErrRange", laid_linotype_api_ErrRange), ("linotype/api.ErrKind", laid_linotype_api_ErrKind)] }
def ScrollPlaysSaid : Prop := scrollPlaysRow.holds Tryd.pinned (OpenSpec.ofChange scrollPlaysSpec)

/-- ITS FALSE NEIGHBOUR: 'it returns false'. Refute it at one input. -/
def scrollPlaysWrong : ChangeSpec := { name := "scrollPlays", fn := fun _ => fun
  | [d1, d2] => { results := [.lit (.bool false)], args := [d1, d2] }
  | _ => none }
def ScrollPlaysWrongFalsely : Prop := scrollPlaysRow.holds Tryd.pinned (OpenSpec.ofChange scrollPlaysWrong)

/-- 'linotypelaw33.ScrollFar': WHATEVER THE INPUT: true; the input reads as it did. -/
def scrollFarSpec : ChangeSpec := { name := "scrollFar", fn := fun _ => fun
  | [d1, d2] => { results := [.lit (.bool true)], args := [d1, d2] }
  | _ => none }
def scrollFarRow : OpenClaim := { program := "ytmclmhdlnlcafaadoor", sum := "fdd59612bedd461200e6ca71628b86a0c3ec36f4f7eee58e8909104476ebfe52", func := "linotype/linotypelaw33.ScrollFar", spec := "scrollFar", unfollowed := true, recurses := true, named := ["linotype/api.ErrRange", "linotype/api.ErrKind"], apart := false, laid := [("linotype/api.ErrRange", laid_linotype_api_ErrRange), ("linotype/api.ErrKind", laid_linotype_api_ErrKind)] }
def ScrollFarSaid : Prop := scrollFarRow.holds Tryd.pinned (OpenSpec.ofChange scrollFarSpec)

/-- ITS FALSE NEIGHBOUR: 'it returns false'. Refute it at one input. -/
def scrollFarWrong : ChangeSpec := { name := "scrollFar", fn := fun _ => fun
  | [d1, d2] => { results := [.lit (.bool false)], args := [d1, d2] }
  | _ => none }
def ScrollFarWrongFalsely : Prop := scrollFarRow.holds Tryd.pinned (OpenSpec.ofChange scrollFarWrong)

/- THE SECOND FORM. 'bulk': how many values and letters a reading holds, each counted each time it is reached (what is shared counts as often as it is met; a slice's spare places count too). A statement '..UptoSaid' is the law's where the arguments, and the package variables that the reading takes, are together of bulk at most 1048576: NARROWER than '..Said'. Prove '..Said' where nothing that the law and all that it calls make is longer than what came in: it says more and counts as full. Else prove '..UptoSaid'. A law counts once. -/
mutual
def uptoBulk {H : Type} : DataW H → Nat
  | .lit (.string bytes) => bytes.length + 1
  | .lit _ => 1
  | .nil => 1
  | .ptr d => uptoBulk d + 1
  | .slice elems spare => uptoBulkAll elems + uptoBulkAll spare + 1
  | .agg parts => uptoBulkAll parts + 1
  | .iface _ d => uptoBulk d + 1
  | .map entries => uptoBulkEntries entries + 1
  | .held _ => 1
def uptoBulkAll {H : Type} : List (DataW H) → Nat
  | [] => 0
  | d :: r => uptoBulk d + uptoBulkAll r
def uptoBulkEntries {H : Type} : List (Lit × DataW H) → Nat
  | [] => 0
  | x :: r => uptoBulkEntry x + uptoBulkEntries r
def uptoBulkEntry {H : Type} : Lit × DataW H → Nat
  | (.string bytes, d) => bytes.length + uptoBulk d + 1
  | (_, d) => uptoBulk d + 1
 end
def uptoSmall : (H : Type) → List (DataW H) → Bool := fun _ ds => decide (uptoBulkAll ds ≤ 1048576)
def OpenSpec.upto (s : _root_.Go.ChangeSpec) : _root_.Go.OpenSpec := { _root_.Go.OpenSpec.ofChange s with cond := some uptoSmall }

/-- 'linotypelaw30.RowtextTells', WHERE WHAT IT READS IS OF BULK AT MOST 1048576: true; the input reads as it did. -/
def rowtextTellsUptoRow : OpenClaim := { program := "ytmclmhdlnlcafaadoor", sum := "fdd59612bedd461200e6ca71628b86a0c3ec36f4f7eee58e8909104476ebfe52", func := "linotype/linotypelaw30.RowtextTells", spec := "rowtextTells", unfollowed := true, recurses := true, named := ["linotype/api.ErrRange", "linotype/api.ErrKind"], apart := false, laid := [("linotype/api.ErrRange", laid_linotype_api_ErrRange), ("linotype/api.ErrKind", laid_linotype_api_ErrKind)], narrowed := true }
def RowtextTellsUptoSaid : Prop := rowtextTellsUptoRow.holds Tryd.pinned (OpenSpec.upto rowtextTellsSpec)

/-- 'linotypelaw30.RowtextFinds', WHERE WHAT IT READS IS OF BULK AT MOST 1048576: true; the input reads as it did. -/
def rowtextFindsUptoRow : OpenClaim := { program := "ytmclmhdlnlcafaadoor", sum := "fdd59612bedd461200e6ca71628b86a0c3ec36f4f7eee58e8909104476ebfe52", func := "linotype/linotypelaw30.RowtextFinds", spec := "rowtextFinds", unfollowed := true, recurses := true, named := ["linotype/api.ErrRange", "linotype/api.ErrKind"], apart := false, laid := [("linotype/api.ErrRange", laid_linotype_api_ErrRange), ("linotype/api.ErrKind", laid_linotype_api_ErrKind)], narrowed := true }
def RowtextFindsUptoSaid : Prop := rowtextFindsUptoRow.holds Tryd.pinned (OpenSpec.upto rowtextFindsSpec)

/-- 'linotypelaw30.RowtextAlike', WHERE WHAT IT READS IS OF BULK AT MOST 1048576: true; the input reads as it did. -/
def rowtextAlikeUptoRow : OpenClaim := { program := "ytmclmhdlnlcafaadoor", sum := "fdd59612bedd461200e6ca71628b86a0c3ec36f4f7eee58e8909104476ebfe52", func := "linotype/linotypelaw30.RowtextAlike", spec := "rowtextAlike", unfollowed := true, recurses := true, named := ["linotype/api.ErrRange", "linotype/api.ErrKind"], apart := false, laid := [("linotype/api.ErrRange", laid_linotype_api_ErrRange), ("linotype/api.ErrKind", laid_linotype_api_ErrKind)], narrowed := true }
def RowtextAlikeUptoSaid : Prop := rowtextAlikeUptoRow.holds Tryd.pinned (OpenSpec.upto rowtextAlikeSpec)

/-- 'linotypelaw29.ItemsRead', WHERE WHAT IT READS IS OF BULK AT MOST 1048576: true; the input reads as it did. -/
def itemsReadUptoRow : OpenClaim := { program := "ytmclmhdlnlcafaadoor", sum := "fdd59612bedd461200e6ca71628b86a0c3ec36f4f7eee58e8909104476ebfe52", func := "linotype/linotypelaw29.ItemsRead", spec := "itemsRead", inPlace := ["internal/reflectlite.TypeOf"], unfollowed := true, recurses := true, named := ["linotype/api.ErrKind", "linotype/api.ErrScalar", "linotype/api.ErrForm", "linotype/api.ErrRange", "linotype/api.ErrLong", "linotype/api.ErrWord", "linotype/api.ErrFull", "linotype/api.ErrNone"], apart := false, laid := [("linotype/api.ErrScalar", laid_linotype_api_ErrScalar), ("linotype/api.ErrForm", laid_linotype_api_ErrForm), ("linotype/api.ErrRange", laid_linotype_api_ErrRange), ("linotype/api.ErrLong", laid_linotype_api_ErrLong), ("linotype/api.ErrKind", laid_linotype_api_ErrKind), ("linotype/api.ErrWord", laid_linotype_api_ErrWord), ("linotype/api.ErrFull", laid_linotype_api_ErrFull), ("linotype/api.ErrNone", laid_linotype_api_ErrNone)], narrowed := true }
def ItemsReadUptoSaid : Prop := itemsReadUptoRow.holds Tryd.pinned (OpenSpec.upto itemsReadSpec)

/-- 'linotypelaw29.ItemsMake', WHERE WHAT IT READS IS OF BULK AT MOST 1048576: true; the input reads as it did. -/
def itemsMakeUptoRow : OpenClaim := { program := "ytmclmhdlnlcafaadoor", sum := "fdd59612bedd461200e6ca71628b86a0c3ec36f4f7eee58e8909104476ebfe52", func := "linotype/linotypelaw29.ItemsMake", spec := "itemsMake", inPlace := ["internal/reflectlite.TypeOf", "internal/reflectlite.ValueOf", "(internal/reflectlite.Value).Type", "(internal/reflectlite.Value).IsNil", "(internal/reflectlite.Value).Elem", "(internal/reflectlite.Value).Set"], unfollowed := true, recurses := true, named := ["linotype/api.ErrKind", "linotype/api.ErrScalar", "linotype/api.ErrForm", "linotype/api.ErrRange", "linotype/api.ErrLong", "linotype/api.ErrWord", "linotype/api.ErrFull", "linotype/api.ErrNone", "errors.errorType"], apart := false, laid := [("errors.errorType", laid_errors_errorType), ("linotype/api.ErrScalar", laid_linotype_api_ErrScalar), ("linotype/api.ErrForm", laid_linotype_api_ErrForm), ("linotype/api.ErrRange", laid_linotype_api_ErrRange), ("linotype/api.ErrLong", laid_linotype_api_ErrLong), ("linotype/api.ErrKind", laid_linotype_api_ErrKind), ("linotype/api.ErrWord", laid_linotype_api_ErrWord), ("linotype/api.ErrFull", laid_linotype_api_ErrFull), ("linotype/api.ErrNone", laid_linotype_api_ErrNone)], narrowed := true }
def ItemsMakeUptoSaid : Prop := itemsMakeUptoRow.holds Tryd.pinned (OpenSpec.upto itemsMakeSpec)

/-- 'linotypelaw24.RowOwn', WHERE WHAT IT READS IS OF BULK AT MOST 1048576: true; the input reads as it did. -/
def rowOwnUptoRow : OpenClaim := { program := "ytmclmhdlnlcafaadoor", sum := "fdd59612bedd461200e6ca71628b86a0c3ec36f4f7eee58e8909104476ebfe52", func := "linotype/linotypelaw24.RowOwn", spec := "rowOwn", unfollowed := true, recurses := true, named := ["linotype/api.ErrRange", "linotype/api.ErrKind"], apart := false, laid := [("linotype/api.ErrRange", laid_linotype_api_ErrRange), ("linotype/api.ErrKind", laid_linotype_api_ErrKind)], narrowed := true }
def RowOwnUptoSaid : Prop := rowOwnUptoRow.holds Tryd.pinned (OpenSpec.upto rowOwnSpec)

/-- 'linotypelaw32.GridMakes', WHERE WHAT IT READS IS OF BULK AT MOST 1048576: true; the input reads as it did. -/
def gridMakesUptoRow : OpenClaim := { program := "ytmclmhdlnlcafaadoor", sum := "fdd59612bedd461200e6ca71628b86a0c3ec36f4f7eee58e8909104476ebfe52", func := "linotype/linotypelaw32.GridMakes", spec := "gridMakes", inPlace := ["internal/reflectlite.TypeOf", "internal/reflectlite.ValueOf", "(internal/reflectlite.Value).Type", "(internal/reflectlite.Value).IsNil", "(internal/reflectlite.Value).Elem", "(internal/reflectlite.Value).Set"], unfollowed := true, recurses := true, named := ["linotype/api.ErrRange", "linotype/api.ErrKind", "linotype/api.ErrScalar", "linotype/api.ErrForm", "linotype/api.ErrLong", "linotype/api.ErrWord", "linotype/api.ErrFull", "linotype/api.ErrNone", "errors.errorType"], apart := false, laid := [("errors.errorType", laid_errors_errorType), ("linotype/api.ErrScalar", laid_linotype_api_ErrScalar), ("linotype/api.ErrForm", laid_linotype_api_ErrForm), ("linotype/api.ErrRange", laid_linotype_api_ErrRange), ("linotype/api.ErrLong", laid_linotype_api_ErrLong), ("linotype/api.ErrKind", laid_linotype_api_ErrKind), ("linotype/api.ErrWord", laid_linotype_api_ErrWord), ("linotype/api.ErrFull", laid_linotype_api_ErrFull), ("linotype/api.ErrNone", laid_linotype_api_ErrNone)], narrowed := true }
def GridMakesUptoSaid : Prop := gridMakesUptoRow.holds Tryd.pinned (OpenSpec.upto gridMakesSpec)

/-- 'linotypelaw32.GridRows', WHERE WHAT IT READS IS OF BULK AT MOST 1048576: true; the input reads as it did. -/
def gridRowsUptoRow : OpenClaim := { program := "ytmclmhdlnlcafaadoor", sum := "fdd59612bedd461200e6ca71628b86a0c3ec36f4f7eee58e8909104476ebfe52", func := "linotype/linotypelaw32.GridRows", spec := "gridRows", unfollowed := true, recurses := true, named := ["linotype/api.ErrRange", "linotype/api.ErrKind"], apart := false, laid := [("linotype/api.ErrRange", laid_linotype_api_ErrRange), ("linotype/api.ErrKind", laid_linotype_api_ErrKind)], narrowed := true }
def GridRowsUptoSaid : Prop := gridRowsUptoRow.holds Tryd.pinned (OpenSpec.upto gridRowsSpec)

/-- 'linotypelaw33.ScrollPlays', WHERE WHAT IT READS IS OF BULK AT MOST 1048576: true; the input reads as it did. -/
def scrollPlaysUptoRow : OpenClaim := { program := "ytmclmhdlnlcafaadoor", sum := "fdd59612bedd461200e6ca71628b86a0c3ec36f4f7eee58e8909104476ebfe52", func := "linotype/linotypelaw33.ScrollPlays", spec := "scrollPlays", unfollowed := true, recurses := true, named := ["linotype/api.ErrRange", "linotype/api.ErrKind"], apart := false, laid := [("linotype/api.ErrRange", laid_linotype_api_ErrRange), ("linotype/api.ErrKind", laid_linotype_api_ErrKind)], narrowed := true }
def ScrollPlaysUptoSaid : Prop := scrollPlaysUptoRow.holds Tryd.pinned (OpenSpec.upto scrollPlaysSpec)

/-- 'linotypelaw33.ScrollFar', WHERE WHAT IT READS IS OF BULK AT MOST 1048576: true; the input reads as it did. -/
def scrollFarUptoRow : OpenClaim := { program := "ytmclmhdlnlcafaadoor", sum := "fdd59612bedd461200e6ca71628b86a0c3ec36f4f7eee58e8909104476ebfe52", func := "linotype/linotypelaw33.ScrollFar", spec := "scrollFar", unfollowed := true, recurses := true, named := ["linotype/api.ErrRange", "linotype/api.ErrKind"], apart := false, laid := [("linotype/api.ErrRange", laid_linotype_api_ErrRange), ("linotype/api.ErrKind", laid_linotype_api_ErrKind)], narrowed := true }
def ScrollFarUptoSaid : Prop := scrollFarUptoRow.holds Tryd.pinned (OpenSpec.upto scrollFarSpec)

end Rows
end Go.Proofs.YtmclmhdlnlcafaaDoor
