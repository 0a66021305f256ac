/-
  NARROWER THAN 'FOR EVERY INPUT', by the rows' own cells (each row's printed sentence says how): SizeTurns: laid · EditSound: laid · CtrlDoes: laid · WidenNone: laid · RowOwn: laid.
  DERIVED. THE GIVEN ROWS OF THIS SEAT. 5 by the template 'for every input the law returns true; each argument reads behind the call as it read before'; 0 by the template 'total and deterministic' (their statements: YtgndolgihplngaaDoorTotals.lean).
  GIVEN WITH THE SEED: the statements are not yours to turn. If you find one false, say at which input.
  Laid BY PROGRAM, IN A SANDBOX (cutbox-rows.mjs): the forced cells as the released guide's own fill.sh prints them over the translation 752e6f2f1512ba15… (all of the seat's roots in one cut). By AI agents, Wed Nov 11 2026. No macro, syntax, notation, axiom, sorry.
-/
import Derived.Test.YtgndolgihplngaaDoorChecked
import GoSem.Claim
import GoSem.ClaimJoined
import GoSem.ClaimMapViews
import Derived.JoinedTies
import Derived.KernelRfl
namespace Go.Proofs.YtgndolgihplngaaDoor
/- THE CELL 'sum', in the pinned program and in every row, IS THE sha256 OF THE DUMP (.gsa) THAT YtgndolgihplngaaDoorProg.lean LOADS. Nothing in Lean hashes anything: it is a label: what it is worth is what the hold of that sum in a sandbox is worth. -/
noncomputable def Tryd.pinned : Pinned := { name := "ytgndolgihplngaadoor", sum := "752e6f2f1512ba15fae1b6d79ffa6c61e3b6a8e34125e77325ddb8e4464ae758", checked := Tryd.checked }
namespace Rows
def none {H : Type} : Left H := { results := [], args := [] }

/- WHAT THE LISTED PACKAGE-LEVEL VARIABLES READ AS WHEN THE CALL BEGINS. Each datum BY PROGRAM (the guide's laid-datum.mjs) off the statement by which the dump's own 'gosem.cut.vars' lays the variable. In a bare row this is a premise. The card (YtgndolgihplngaaDoorCards.lean) ties it to the program's text. -/
def laid_linotype_api_ErrRange {H : Type} : DataW H := .iface "*errors.errorString" (.ptr (.agg [.lit (.string [114, 97, 110, 103, 101])]))
def laid_linotype_api_ErrKind {H : Type} : DataW H := .iface "*errors.errorString" (.ptr (.agg [.lit (.string [107, 105, 110, 100])]))
def laid_linotype_api_ErrScalar {H : Type} : DataW H := .iface "*errors.errorString" (.ptr (.agg [.lit (.string [115, 99, 97, 108, 97, 114])]))
def laid_linotype_api_ErrForm {H : Type} : DataW H := .iface "*errors.errorString" (.ptr (.agg [.lit (.string [102, 111, 114, 109])]))
def laid_linotype_api_ErrLong {H : Type} : DataW H := .iface "*errors.errorString" (.ptr (.agg [.lit (.string [108, 111, 110, 103])]))
def laid_linotype_api_ErrWord {H : Type} : DataW H := .iface "*errors.errorString" (.ptr (.agg [.lit (.string [119, 111, 114, 100])]))
def laid_linotype_api_ErrFull {H : Type} : DataW H := .iface "*errors.errorString" (.ptr (.agg [.lit (.string [102, 117, 108, 108])]))
def laid_linotype_api_ErrNone {H : Type} : DataW H := .iface "*errors.errorString" (.ptr (.agg [.lit (.string [110, 111, 110, 101])]))

/-- 'linotypelaw39.SizeTurns': WHATEVER THE INPUT: true; the input reads as it did. -/
def sizeTurnsSpec : ChangeSpec := { name := "sizeTurns", fn := fun _ => fun
  | [d1, d2] => { results := [.lit (.bool true)], args := [d1, d2] }
  | _ => none }
def sizeTurnsRow : OpenClaim := { program := "ytgndolgihplngaadoor", sum := "752e6f2f1512ba15fae1b6d79ffa6c61e3b6a8e34125e77325ddb8e4464ae758", func := "linotype/linotypelaw39.SizeTurns", spec := "sizeTurns", unfollowed := true, recurses := true, named := ["linotype/api.ErrRange", "linotype/api.ErrKind"], apart := false, laid := [("linotype/api.ErrRange", laid_linotype_api_ErrRange), ("linotype/api.ErrKind", laid_linotype_api_ErrKind)] }
def SizeTurnsSaid : Prop := sizeTurnsRow.holds Tryd.pinned (OpenSpec.ofChange sizeTurnsSpec)

/-- ITS FALSE NEIGHBOUR: 'it returns false'. Refute it at one input. -/
def sizeTurnsWrong : ChangeSpec := { name := "sizeTurns", fn := fun _ => fun
  | [d1, d2] => { results := [.lit (.bool false)], args := [d1, d2] }
  | _ => none }
def SizeTurnsWrongFalsely : Prop := sizeTurnsRow.holds Tryd.pinned (OpenSpec.ofChange sizeTurnsWrong)

/-- 'linotypelaw38.EditSound': WHATEVER THE INPUT: true; the input reads as it did. -/
def editSoundSpec : ChangeSpec := { name := "editSound", fn := fun _ => fun
  | [d1, d2] => { results := [.lit (.bool true)], args := [d1, d2] }
  | _ => none }
def editSoundRow : OpenClaim := { program := "ytgndolgihplngaadoor", sum := "752e6f2f1512ba15fae1b6d79ffa6c61e3b6a8e34125e77325ddb8e4464ae758", func := "linotype/linotypelaw38.EditSound", spec := "editSound", inPlace := ["internal/reflectlite.TypeOf"], unfollowed := true, recurses := true, named := ["linotype/api.ErrRange", "linotype/api.ErrKind", "linotype/api.ErrScalar", "linotype/api.ErrForm", "linotype/api.ErrLong", "linotype/api.ErrWord", "linotype/api.ErrFull", "linotype/api.ErrNone"], apart := false, laid := [("linotype/api.ErrScalar", laid_linotype_api_ErrScalar), ("linotype/api.ErrForm", laid_linotype_api_ErrForm), ("linotype/api.ErrRange", laid_linotype_api_ErrRange), ("linotype/api.ErrLong", laid_linotype_api_ErrLong), ("linotype/api.ErrKind", laid_linotype_api_ErrKind), ("linotype/api.ErrWord", laid_linotype_api_ErrWord), ("linotype/api.ErrFull", laid_linotype_api_ErrFull), ("linotype/api.ErrNone", laid_linotype_api_ErrNone)] }
def EditSoundSaid : Prop := editSoundRow.holds Tryd.pinned (OpenSpec.ofChange editSoundSpec)

/-- ITS FALSE NEIGHBOUR: 'it returns false'. Refute it at one input. -/
def editSoundWrong : ChangeSpec := { name := "editSound", fn := fun _ => fun
  | [d1, d2] => { results := [.lit (.bool false)], args := [d1, d2] }
  | _ => none }
def EditSoundWrongFalsely : Prop := editSoundRow.holds Tryd.pinned (OpenSpec.ofChange editSoundWrong)

/-- 'linotypelaw36.CtrlDoes': WHATEVER THE INPUT: true; the input reads as it did. -/
def ctrlDoesSpec : ChangeSpec := { name := "ctrlDoes", fn := fun _ => fun
  | [d1, d2] => { results := [.lit (.bool true)], args := [d1, d2] }
  | _ => none }
def ctrlDoesRow : OpenClaim := { program := "ytgndolgihplngaadoor", sum := "752e6f2f1512ba15fae1b6d79ffa6c61e3b6a8e34125e77325ddb8e4464ae758", func := "linotype/linotypelaw36.CtrlDoes", spec := "ctrlDoes", unfollowed := true, recurses := true, named := ["linotype/api.ErrRange", "linotype/api.ErrKind"], apart := false, laid := [("linotype/api.ErrRange", laid_linotype_api_ErrRange), ("linotype/api.ErrKind", laid_linotype_api_ErrKind)] }
def CtrlDoesSaid : Prop := ctrlDoesRow.holds Tryd.pinned (OpenSpec.ofChange ctrlDoesSpec)

/-- ITS FALSE NEIGHBOUR: 'it returns false'. Refute it at one input. -/
def ctrlDoesWrong : ChangeSpec := { name := "ctrlDoes", fn := fun _ => fun
  | [d1, d2] => { results := [.lit (.bool false)], args := [d1, d2] }
  | _ => none }
def CtrlDoesWrongFalsely : Prop := ctrlDoesRow.holds Tryd.pinned (OpenSpec.ofChange ctrlDoesWrong)

/-- 'linotypelaw35.WidenNone': WHATEVER THE INPUT: true; the input reads as it did. -/
def widenNoneSpec : ChangeSpec := { name := "widenNone", fn := fun _ => fun
  | [d1, d2] => { results := [.lit (.bool true)], args := [d1, d2] }
  | _ => none }
def widenNoneRow : OpenClaim := { program := "ytgndolgihplngaadoor", sum := "752e6f2f1512ba15fae1b6d79ffa6c61e3b6a8e34125e77325ddb8e4464ae758", func := "linotype/linotypelaw35.WidenNone", spec := "widenNone", unfollowed := true, recurses := true, named := ["linotype/api.ErrRange", "linotype/api.ErrKind"], apart := false, laid := [("linotype/api.ErrRange", laid_linotype_api_ErrRange), ("linotype/api.ErrKind", laid_linotype_api_ErrKind)] }
def WidenNoneSaid : Prop := widenNoneRow.holds Tryd.pinned (OpenSpec.ofChange widenNoneSpec)

/-- ITS FALSE NEIGHBOUR: 'it returns false'. Refute it at one input. -/
def widenNoneWrong : ChangeSpec := { name := "widenNone", fn := fun _ => fun
  | [d1, d2] => { results := [.lit (.bool false)], args := [d1, d2] }
  | _ => none }
def WidenNoneWrongFalsely : Prop := widenNoneRow.holds Tryd.pinned (OpenSpec.ofChange widenNoneWrong)

/-- 'linotypelaw24.RowOwn': WHATEVER THE INPUT: true; the input reads as it did. -/
def rowOwnSpec : ChangeSpec := { name := "rowOwn", fn := fun _ => fun
  | [d] => { results := [.lit (.bool true)], args := [d] }
  | _ => none }
def rowOwnRow : OpenClaim := { program := "ytgndolgihplngaadoor", sum := "752e6f2f1512ba15fae1b6d79ffa6c61e3b6a8e34125e77325ddb8e4464ae758", func := "linotype/linotypelaw24.RowOwn", spec := "rowOwn", unfollowed := true, recurses := true, named := ["linotype/api.ErrRange", "linotype/api.ErrKind"], apart := false, laid := [("linotype/api.ErrRange", laid_linotype_api_ErrRange), ("linotype/api.ErrKind", laid_linotype_api_ErrKind)] }
def RowOwnSaid : Prop := rowOwnRow.holds Tryd.pinned (OpenSpec.ofChange rowOwnSpec)

/-- ITS FALSE NEIGHBOUR: 'it returns false'. Refute it at one input. -/
def rowOwnWrong : ChangeSpec := { name := "rowOwn", fn := fun _ => fun
  | [d] => { results := [.lit (.bool false)], args := [d] }
  | _ => none }
def RowOwnWrongFalsely : Prop := rowOwnRow.holds Tryd.pinned (OpenSpec.ofChange rowOwnWrong)

/- THE SECOND FORM. 'bulk': how many values and letters a reading holds, each counted each time it is reached (what is shared counts as often as it is met; a slice's spare places count too). A statement '..UptoSaid' is the law's where the arguments, and the package variables that the reading takes, are together of bulk at most 1048576: NARROWER than '..Said'. Prove '..Said' where nothing that the law and all that it calls make is longer than what came in: it says more and counts as full. Else prove '..UptoSaid'. A law counts once. -/
mutual
def uptoBulk {H : Type} : DataW H → Nat
  | .lit (.string bytes) => bytes.length + 1
  | .lit _ => 1
  | .nil => 1
  | .ptr d => uptoBulk d + 1
  | .slice elems spare => uptoBulkAll elems + uptoBulkAll spare + 1
  | .agg parts => uptoBulkAll parts + 1
  | .iface _ d => uptoBulk d + 1
  | .map entries => uptoBulkEntries entries + 1
  | .held _ => 1
def uptoBulkAll {H : Type} : List (DataW H) → Nat
  | [] => 0
  | d :: r => uptoBulk d + uptoBulkAll r
def uptoBulkEntries {H : Type} : List (Lit × DataW H) → Nat
  | [] => 0
  | x :: r => uptoBulkEntry x + uptoBulkEntries r
def uptoBulkEntry {H : Type} : Lit × DataW H → Nat
  | (.string bytes, d) => bytes.length + uptoBulk d + 1
  | (_, d) => uptoBulk d + 1
 end
def uptoSmall : (H : Type) → List (DataW H) → Bool := fun _ ds => decide (uptoBulkAll ds ≤ 1048576)
def OpenSpec.upto (s : _root_.Go.ChangeSpec) : _root_.Go.OpenSpec := { _root_.Go.OpenSpec.ofChange s with cond := some uptoSmall }

/-- 'linotypelaw39.SizeTurns', WHERE WHAT IT READS IS OF BULK AT MOST 1048576: true; the input reads as it did. -/
def sizeTurnsUptoRow : OpenClaim := { program := "ytgndolgihplngaadoor", sum := "752e6f2f1512ba15fae1b6d79ffa6c61e3b6a8e34125e77325ddb8e4464ae758", func := "linotype/linotypelaw39.SizeTurns", spec := "sizeTurns", unfollowed := true, recurses := true, named := ["linotype/api.ErrRange", "linotype/api.ErrKind"], apart := false, laid := [("linotype/api.ErrRange", laid_linotype_api_ErrRange), ("linotype/api.ErrKind", laid_linotype_api_ErrKind)], narrowed := true }
def SizeTurnsUptoSaid : Prop := sizeTurnsUptoRow.holds Tryd.pinned (OpenSpec.upto sizeTurnsSpec)

/-- 'linotypelaw38.EditSound', WHERE WHAT IT READS IS OF BULK AT MOST 1048576: true; the input reads as it did. -/
def editSoundUptoRow : OpenClaim := { program := "ytgndolgihplngaadoor", sum := "752e6f2f1512ba15fae1b6d79ffa6c61e3b6a8e34125e77325ddb8e4464ae758", func := "linotype/linotypelaw38.EditSound", spec := "editSound", inPlace := ["internal/reflectlite.TypeOf"], unfollowed := true, recurses := true, named := ["linotype/api.ErrRange", "linotype/api.ErrKind", "linotype/api.ErrScalar", "linotype/api.ErrForm", "linotype/api.ErrLong", "linotype/api.ErrWord", "linotype/api.ErrFull", "linotype/api.ErrNone"], apart := false, laid := [("linotype/api.ErrScalar", laid_linotype_api_ErrScalar), ("linotype/api.ErrForm", laid_linotype_api_ErrForm), ("linotype/api.ErrRange", laid_linotype_api_ErrRange), ("linotype/api.ErrLong", laid_linotype_api_ErrLong), ("linotype/api.ErrKind", laid_linotype_api_ErrKind), ("linotype/api.ErrWord", laid_linotype_api_ErrWord), ("linotype/api.ErrFull", laid_linotype_api_ErrFull), ("linotype/api.ErrNone", laid_linotype_api_ErrNone)], narrowed := true }
def EditSoundUptoSaid : Prop := editSoundUptoRow.holds Tryd.pinned (OpenSpec.upto editSoundSpec)

/-- 'linotypelaw36.CtrlDoes', WHERE WHAT IT READS IS OF BULK AT MOST 1048576: true; the input reads as it did. -/
def ctrlDoesUptoRow : OpenClaim := { program := "ytgndolgihplngaadoor", sum := "752e6f2f1512ba15fae1b6d79ffa6c61e3b6a8e34125e77325ddb8e4464ae758", func := "linotype/linotypelaw36.CtrlDoes", spec := "ctrlDoes", unfollowed := true, recurses := true, named := ["linotype/api.ErrRange", "linotype/api.ErrKind"], apart := false, laid := [("linotype/api.ErrRange", laid_linotype_api_ErrRange), ("linotype/api.ErrKind", laid_linotype_api_ErrKind)], narrowed := true }
def CtrlDoesUptoSaid : Prop := ctrlDoesUptoRow.holds Tryd.pinned (OpenSpec.upto ctrlDoesSpec)

/-- 'linotypelaw35.WidenNone', WHERE WHAT IT READS IS OF BULK AT MOST 1048576: true; the input reads as it did. -/
def widenNoneUptoRow : OpenClaim := { program := "ytgndolgihplngaadoor", sum := "752e6f2f1512ba15fae1b6d79ffa6c61e3b6a8e34125e77325ddb8e4464ae758", func := "linotype/linotypelaw35.WidenNone", spec := "widenNone", unfollowed := true, recurses := true, named := ["linotype/api.ErrRange", "linotype/api.ErrKind"], apart := false, laid := [("linotype/api.ErrRange", laid_linotype_api_ErrRange), ("linotype/api.ErrKind", laid_linotype_api_ErrKind)], narrowed := true }
def WidenNoneUptoSaid : Prop := widenNoneUptoRow.holds Tryd.pinned (OpenSpec.upto widenNoneSpec)

/-- 'linotypelaw24.RowOwn', WHERE WHAT IT READS IS OF BULK AT MOST 1048576: true; the input reads as it did. -/
def rowOwnUptoRow : OpenClaim := { program := "ytgndolgihplngaadoor", sum := "752e6f2f1512ba15fae1b6d79ffa6c61e3b6a8e34125e77325ddb8e4464ae758", func := "linotype/linotypelaw24.RowOwn", spec := "rowOwn", unfollowed := true, recurses := true, named := ["linotype/api.ErrRange", "linotype/api.ErrKind"], apart := false, laid := [("linotype/api.ErrRange", laid_linotype_api_ErrRange), ("linotype/api.ErrKind", laid_linotype_api_ErrKind)], narrowed := true }
def RowOwnUptoSaid : Prop := rowOwnUptoRow.holds Tryd.pinned (OpenSpec.upto rowOwnSpec)

end Rows
end Go.Proofs.YtgndolgihplngaaDoor
