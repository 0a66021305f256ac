/-
  No cell of these rows narrows 'for every input' (looked for: loops, veiled, ifaces, maps, wideKeys, modest, calm, conditions, laid).
  DERIVED. THE GIVEN ROWS OF THIS SEAT. 12 by the template 'for every input the law returns true; each argument reads behind the call as it read before'; 0 by the template 'total and deterministic' (their statements: YtgdknabpdjohgabTotals.lean).
  GIVEN WITH THE SEED: the statements are not yours to turn. If you find one false, say at which input.
  Laid BY PROGRAM, IN A SANDBOX (cutbox-rows.mjs): the forced cells as the released guide's own fill.sh prints them over the translation 73ed5875f5c87675… (all of the seat's roots in one cut). By AI agents, Wed Nov 11 2026. No macro, syntax, notation, axiom, sorry.
-/
import Derived.Test.YtgdknabpdjohgabChecked
import GoSem.Claim
import GoSem.ClaimJoined
import GoSem.ClaimMapViews
import Derived.JoinedTies
import Derived.KernelRfl
namespace Go.Proofs.Ytgdknabpdjohgab
/- THE CELL 'sum', in the pinned program and in every row, IS THE sha256 OF THE DUMP (.gsa) THAT YtgdknabpdjohgabProg.lean LOADS. Nothing in Lean hashes anything: it is a label: what it is worth is what the hold of that sum in a sandbox is worth. -/
noncomputable def Try.pinned : Pinned := { name := "ytgdknabpdjohgab", sum := "73ed5875f5c87675680cd32b245c4b930fe3e203e929c5db5c8288fc1a548b32", checked := Try.checked }
namespace Rows
def none {H : Type} : Left H := { results := [], args := [] }

/-- 'linotypelaw08.HangulJoins': WHATEVER THE INPUT: true; the input reads as it did. -/
def hangulJoinsSpec : ChangeSpec := { name := "hangulJoins", fn := fun _ => fun
  | [d1, d2, d3] => { results := [.lit (.bool true)], args := [d1, d2, d3] }
  | _ => none }
def hangulJoinsRow : OpenClaim := { program := "ytgdknabpdjohgab", sum := "73ed5875f5c87675680cd32b245c4b930fe3e203e929c5db5c8288fc1a548b32", func := "linotype/linotypelaw08.HangulJoins", spec := "hangulJoins", apart := false }
def HangulJoinsSaid : Prop := hangulJoinsRow.holds Try.pinned (OpenSpec.ofChange hangulJoinsSpec)

/-- ITS FALSE NEIGHBOUR: 'it returns false'. Refute it at one input. -/
def hangulJoinsWrong : ChangeSpec := { name := "hangulJoins", fn := fun _ => fun
  | [d1, d2, d3] => { results := [.lit (.bool false)], args := [d1, d2, d3] }
  | _ => none }
def HangulJoinsWrongFalsely : Prop := hangulJoinsRow.holds Try.pinned (OpenSpec.ofChange hangulJoinsWrong)

/-- 'linotypelaw10.PictTells': WHATEVER THE INPUT: true; the input reads as it did. -/
def pictTellsSpec : ChangeSpec := { name := "pictTells", fn := fun _ => fun
  | [d] => { results := [.lit (.bool true)], args := [d] }
  | _ => none }
def pictTellsRow : OpenClaim := { program := "ytgdknabpdjohgab", sum := "73ed5875f5c87675680cd32b245c4b930fe3e203e929c5db5c8288fc1a548b32", func := "linotype/linotypelaw10.PictTells", spec := "pictTells", unfollowed := true, recurses := true, apart := false }
def PictTellsSaid : Prop := pictTellsRow.holds Try.pinned (OpenSpec.ofChange pictTellsSpec)

/-- ITS FALSE NEIGHBOUR: 'it returns false'. Refute it at one input. -/
def pictTellsWrong : ChangeSpec := { name := "pictTells", fn := fun _ => fun
  | [d] => { results := [.lit (.bool false)], args := [d] }
  | _ => none }
def PictTellsWrongFalsely : Prop := pictTellsRow.holds Try.pinned (OpenSpec.ofChange pictTellsWrong)

/-- 'linotypelaw12.EastTells': WHATEVER THE INPUT: true; the input reads as it did. -/
def eastTellsSpec : ChangeSpec := { name := "eastTells", fn := fun _ => fun
  | [d] => { results := [.lit (.bool true)], args := [d] }
  | _ => none }
def eastTellsRow : OpenClaim := { program := "ytgdknabpdjohgab", sum := "73ed5875f5c87675680cd32b245c4b930fe3e203e929c5db5c8288fc1a548b32", func := "linotype/linotypelaw12.EastTells", spec := "eastTells", unfollowed := true, recurses := true, apart := false }
def EastTellsSaid : Prop := eastTellsRow.holds Try.pinned (OpenSpec.ofChange eastTellsSpec)

/-- ITS FALSE NEIGHBOUR: 'it returns false'. Refute it at one input. -/
def eastTellsWrong : ChangeSpec := { name := "eastTells", fn := fun _ => fun
  | [d] => { results := [.lit (.bool false)], args := [d] }
  | _ => none }
def EastTellsWrongFalsely : Prop := eastTellsRow.holds Try.pinned (OpenSpec.ofChange eastTellsWrong)

/-- 'linotypelaw14.PairsJoin': WHATEVER THE INPUT: true; the input reads as it did. -/
def pairsJoinSpec : ChangeSpec := { name := "pairsJoin", fn := fun _ => fun
  | [d1, d2] => { results := [.lit (.bool true)], args := [d1, d2] }
  | _ => none }
def pairsJoinRow : OpenClaim := { program := "ytgdknabpdjohgab", sum := "73ed5875f5c87675680cd32b245c4b930fe3e203e929c5db5c8288fc1a548b32", func := "linotype/linotypelaw14.PairsJoin", spec := "pairsJoin", apart := false }
def PairsJoinSaid : Prop := pairsJoinRow.holds Try.pinned (OpenSpec.ofChange pairsJoinSpec)

/-- ITS FALSE NEIGHBOUR: 'it returns false'. Refute it at one input. -/
def pairsJoinWrong : ChangeSpec := { name := "pairsJoin", fn := fun _ => fun
  | [d1, d2] => { results := [.lit (.bool false)], args := [d1, d2] }
  | _ => none }
def PairsJoinWrongFalsely : Prop := pairsJoinRow.holds Try.pinned (OpenSpec.ofChange pairsJoinWrong)

/-- 'linotypelaw14.PairsOther': WHATEVER THE INPUT: true; the input reads as it did. -/
def pairsOtherSpec : ChangeSpec := { name := "pairsOther", fn := fun _ => fun
  | [d] => { results := [.lit (.bool true)], args := [d] }
  | _ => none }
def pairsOtherRow : OpenClaim := { program := "ytgdknabpdjohgab", sum := "73ed5875f5c87675680cd32b245c4b930fe3e203e929c5db5c8288fc1a548b32", func := "linotype/linotypelaw14.PairsOther", spec := "pairsOther", apart := false }
def PairsOtherSaid : Prop := pairsOtherRow.holds Try.pinned (OpenSpec.ofChange pairsOtherSpec)

/-- ITS FALSE NEIGHBOUR: 'it returns false'. Refute it at one input. -/
def pairsOtherWrong : ChangeSpec := { name := "pairsOther", fn := fun _ => fun
  | [d] => { results := [.lit (.bool false)], args := [d] }
  | _ => none }
def PairsOtherWrongFalsely : Prop := pairsOtherRow.holds Try.pinned (OpenSpec.ofChange pairsOtherWrong)

/-- 'linotypelaw15.SegSteps': WHATEVER THE INPUT: true; the input reads as it did. -/
def segStepsSpec : ChangeSpec := { name := "segSteps", fn := fun _ => fun
  | [d] => { results := [.lit (.bool true)], args := [d] }
  | _ => none }
def segStepsRow : OpenClaim := { program := "ytgdknabpdjohgab", sum := "73ed5875f5c87675680cd32b245c4b930fe3e203e929c5db5c8288fc1a548b32", func := "linotype/linotypelaw15.SegSteps", spec := "segSteps", apart := false }
def SegStepsSaid : Prop := segStepsRow.holds Try.pinned (OpenSpec.ofChange segStepsSpec)

/-- ITS FALSE NEIGHBOUR: 'it returns false'. Refute it at one input. -/
def segStepsWrong : ChangeSpec := { name := "segSteps", fn := fun _ => fun
  | [d] => { results := [.lit (.bool false)], args := [d] }
  | _ => none }
def SegStepsWrongFalsely : Prop := segStepsRow.holds Try.pinned (OpenSpec.ofChange segStepsWrong)

/-- 'linotypelaw15.SegCopies': WHATEVER THE INPUT: true; the input reads as it did. -/
def segCopiesSpec : ChangeSpec := { name := "segCopies", fn := fun _ => fun
  | [d1, d2] => { results := [.lit (.bool true)], args := [d1, d2] }
  | _ => none }
def segCopiesRow : OpenClaim := { program := "ytgdknabpdjohgab", sum := "73ed5875f5c87675680cd32b245c4b930fe3e203e929c5db5c8288fc1a548b32", func := "linotype/linotypelaw15.SegCopies", spec := "segCopies", apart := false }
def SegCopiesSaid : Prop := segCopiesRow.holds Try.pinned (OpenSpec.ofChange segCopiesSpec)

/-- ITS FALSE NEIGHBOUR: 'it returns false'. Refute it at one input. -/
def segCopiesWrong : ChangeSpec := { name := "segCopies", fn := fun _ => fun
  | [d1, d2] => { results := [.lit (.bool false)], args := [d1, d2] }
  | _ => none }
def SegCopiesWrongFalsely : Prop := segCopiesRow.holds Try.pinned (OpenSpec.ofChange segCopiesWrong)

/-- 'linotypelaw15.SegBreaks': WHATEVER THE INPUT: true; the input reads as it did. -/
def segBreaksSpec : ChangeSpec := { name := "segBreaks", fn := fun _ => fun
  | [d1, d2, d3] => { results := [.lit (.bool true)], args := [d1, d2, d3] }
  | _ => none }
def segBreaksRow : OpenClaim := { program := "ytgdknabpdjohgab", sum := "73ed5875f5c87675680cd32b245c4b930fe3e203e929c5db5c8288fc1a548b32", func := "linotype/linotypelaw15.SegBreaks", spec := "segBreaks", apart := false }
def SegBreaksSaid : Prop := segBreaksRow.holds Try.pinned (OpenSpec.ofChange segBreaksSpec)

/-- ITS FALSE NEIGHBOUR: 'it returns false'. Refute it at one input. -/
def segBreaksWrong : ChangeSpec := { name := "segBreaks", fn := fun _ => fun
  | [d1, d2, d3] => { results := [.lit (.bool false)], args := [d1, d2, d3] }
  | _ => none }
def SegBreaksWrongFalsely : Prop := segBreaksRow.holds Try.pinned (OpenSpec.ofChange segBreaksWrong)

/-- 'linotypelaw20.ClusterKeeps': WHATEVER THE INPUT: true; the input reads as it did. -/
def clusterKeepsSpec : ChangeSpec := { name := "clusterKeeps", fn := fun _ => fun
  | [d] => { results := [.lit (.bool true)], args := [d] }
  | _ => none }
def clusterKeepsRow : OpenClaim := { program := "ytgdknabpdjohgab", sum := "73ed5875f5c87675680cd32b245c4b930fe3e203e929c5db5c8288fc1a548b32", func := "linotype/linotypelaw20.ClusterKeeps", spec := "clusterKeeps", apart := false }
def ClusterKeepsSaid : Prop := clusterKeepsRow.holds Try.pinned (OpenSpec.ofChange clusterKeepsSpec)

/-- ITS FALSE NEIGHBOUR: 'it returns false'. Refute it at one input. -/
def clusterKeepsWrong : ChangeSpec := { name := "clusterKeeps", fn := fun _ => fun
  | [d] => { results := [.lit (.bool false)], args := [d] }
  | _ => none }
def ClusterKeepsWrongFalsely : Prop := clusterKeepsRow.holds Try.pinned (OpenSpec.ofChange clusterKeepsWrong)

/-- 'linotypelaw20.ClusterSame': WHATEVER THE INPUT: true; the input reads as it did. -/
def clusterSameSpec : ChangeSpec := { name := "clusterSame", fn := fun _ => fun
  | [d1, d2, d3] => { results := [.lit (.bool true)], args := [d1, d2, d3] }
  | _ => none }
def clusterSameRow : OpenClaim := { program := "ytgdknabpdjohgab", sum := "73ed5875f5c87675680cd32b245c4b930fe3e203e929c5db5c8288fc1a548b32", func := "linotype/linotypelaw20.ClusterSame", spec := "clusterSame", apart := false }
def ClusterSameSaid : Prop := clusterSameRow.holds Try.pinned (OpenSpec.ofChange clusterSameSpec)

/-- ITS FALSE NEIGHBOUR: 'it returns false'. Refute it at one input. -/
def clusterSameWrong : ChangeSpec := { name := "clusterSame", fn := fun _ => fun
  | [d1, d2, d3] => { results := [.lit (.bool false)], args := [d1, d2, d3] }
  | _ => none }
def ClusterSameWrongFalsely : Prop := clusterSameRow.holds Try.pinned (OpenSpec.ofChange clusterSameWrong)

/-- 'linotypelaw31.CursorTells': WHATEVER THE INPUT: true; the input reads as it did. -/
def cursorTellsSpec : ChangeSpec := { name := "cursorTells", fn := fun _ => fun
  | [d1, d2, d3] => { results := [.lit (.bool true)], args := [d1, d2, d3] }
  | _ => none }
def cursorTellsRow : OpenClaim := { program := "ytgdknabpdjohgab", sum := "73ed5875f5c87675680cd32b245c4b930fe3e203e929c5db5c8288fc1a548b32", func := "linotype/linotypelaw31.CursorTells", spec := "cursorTells", apart := false }
def CursorTellsSaid : Prop := cursorTellsRow.holds Try.pinned (OpenSpec.ofChange cursorTellsSpec)

/-- ITS FALSE NEIGHBOUR: 'it returns false'. Refute it at one input. -/
def cursorTellsWrong : ChangeSpec := { name := "cursorTells", fn := fun _ => fun
  | [d1, d2, d3] => { results := [.lit (.bool false)], args := [d1, d2, d3] }
  | _ => none }
def CursorTellsWrongFalsely : Prop := cursorTellsRow.holds Try.pinned (OpenSpec.ofChange cursorTellsWrong)

/-- 'linotypelaw48.BoundTells': WHATEVER THE INPUT: true; the input reads as it did. -/
def boundTellsSpec : ChangeSpec := { name := "boundTells", fn := fun _ => fun
  | [d1, d2, d3] => { results := [.lit (.bool true)], args := [d1, d2, d3] }
  | _ => none }
def boundTellsRow : OpenClaim := { program := "ytgdknabpdjohgab", sum := "73ed5875f5c87675680cd32b245c4b930fe3e203e929c5db5c8288fc1a548b32", func := "linotype/linotypelaw48.BoundTells", spec := "boundTells", apart := false }
def BoundTellsSaid : Prop := boundTellsRow.holds Try.pinned (OpenSpec.ofChange boundTellsSpec)

/-- ITS FALSE NEIGHBOUR: 'it returns false'. Refute it at one input. -/
def boundTellsWrong : ChangeSpec := { name := "boundTells", fn := fun _ => fun
  | [d1, d2, d3] => { results := [.lit (.bool false)], args := [d1, d2, d3] }
  | _ => none }
def BoundTellsWrongFalsely : Prop := boundTellsRow.holds Try.pinned (OpenSpec.ofChange boundTellsWrong)

/- THE SECOND FORM. 'bulk': how many values and letters a reading holds, each counted each time it is reached (what is shared counts as often as it is met; a slice's spare places count too). A statement '..UptoSaid' is the law's where the arguments, and the package variables that the reading takes, are together of bulk at most 1048576: NARROWER than '..Said'. Prove '..Said' where nothing that the law and all that it calls make is longer than what came in: it says more and counts as full. Else prove '..UptoSaid'. A law counts once. -/
mutual
def uptoBulk {H : Type} : DataW H → Nat
  | .lit (.string bytes) => bytes.length + 1
  | .lit _ => 1
  | .nil => 1
  | .ptr d => uptoBulk d + 1
  | .slice elems spare => uptoBulkAll elems + uptoBulkAll spare + 1
  | .agg parts => uptoBulkAll parts + 1
  | .iface _ d => uptoBulk d + 1
  | .map entries => uptoBulkEntries entries + 1
  | .held _ => 1
def uptoBulkAll {H : Type} : List (DataW H) → Nat
  | [] => 0
  | d :: r => uptoBulk d + uptoBulkAll r
def uptoBulkEntries {H : Type} : List (Lit × DataW H) → Nat
  | [] => 0
  | x :: r => uptoBulkEntry x + uptoBulkEntries r
def uptoBulkEntry {H : Type} : Lit × DataW H → Nat
  | (.string bytes, d) => bytes.length + uptoBulk d + 1
  | (_, d) => uptoBulk d + 1
 end
def uptoSmall : (H : Type) → List (DataW H) → Bool := fun _ ds => decide (uptoBulkAll ds ≤ 1048576)
def OpenSpec.upto (s : _root_.Go.ChangeSpec) : _root_.Go.OpenSpec := { _root_.Go.OpenSpec.ofChange s with cond := some uptoSmall }

/-- 'linotypelaw08.HangulJoins', WHERE WHAT IT READS IS OF BULK AT MOST 1048576: true; the input reads as it did. -/
def hangulJoinsUptoRow : OpenClaim := { program := "ytgdknabpdjohgab", sum := "73ed5875f5c87675680cd32b245c4b930fe3e203e929c5db5c8288fc1a548b32", func := "linotype/linotypelaw08.HangulJoins", spec := "hangulJoins", apart := false, narrowed := true }
def HangulJoinsUptoSaid : Prop := hangulJoinsUptoRow.holds Try.pinned (OpenSpec.upto hangulJoinsSpec)

/-- 'linotypelaw10.PictTells', WHERE WHAT IT READS IS OF BULK AT MOST 1048576: true; the input reads as it did. -/
def pictTellsUptoRow : OpenClaim := { program := "ytgdknabpdjohgab", sum := "73ed5875f5c87675680cd32b245c4b930fe3e203e929c5db5c8288fc1a548b32", func := "linotype/linotypelaw10.PictTells", spec := "pictTells", unfollowed := true, recurses := true, apart := false, narrowed := true }
def PictTellsUptoSaid : Prop := pictTellsUptoRow.holds Try.pinned (OpenSpec.upto pictTellsSpec)

/-- 'linotypelaw12.EastTells', WHERE WHAT IT READS IS OF BULK AT MOST 1048576: true; the input reads as it did. -/
def eastTellsUptoRow : OpenClaim := { program := "ytgdknabpdjohgab", sum := "73ed5875f5c87675680cd32b245c4b930fe3e203e929c5db5c8288fc1a548b32", func := "linotype/linotypelaw12.EastTells", spec := "eastTells", unfollowed := true, recurses := true, apart := false, narrowed := true }
def EastTellsUptoSaid : Prop := eastTellsUptoRow.holds Try.pinned (OpenSpec.upto eastTellsSpec)

/-- 'linotypelaw14.PairsJoin', WHERE WHAT IT READS IS OF BULK AT MOST 1048576: true; the input reads as it did. -/
def pairsJoinUptoRow : OpenClaim := { program := "ytgdknabpdjohgab", sum := "73ed5875f5c87675680cd32b245c4b930fe3e203e929c5db5c8288fc1a548b32", func := "linotype/linotypelaw14.PairsJoin", spec := "pairsJoin", apart := false, narrowed := true }
def PairsJoinUptoSaid : Prop := pairsJoinUptoRow.holds Try.pinned (OpenSpec.upto pairsJoinSpec)

/-- 'linotypelaw14.PairsOther', WHERE WHAT IT READS IS OF BULK AT MOST 1048576: true; the input reads as it did. -/
def pairsOtherUptoRow : OpenClaim := { program := "ytgdknabpdjohgab", sum := "73ed5875f5c87675680cd32b245c4b930fe3e203e929c5db5c8288fc1a548b32", func := "linotype/linotypelaw14.PairsOther", spec := "pairsOther", apart := false, narrowed := true }
def PairsOtherUptoSaid : Prop := pairsOtherUptoRow.holds Try.pinned (OpenSpec.upto pairsOtherSpec)

/-- 'linotypelaw15.SegSteps', WHERE WHAT IT READS IS OF BULK AT MOST 1048576: true; the input reads as it did. -/
def segStepsUptoRow : OpenClaim := { program := "ytgdknabpdjohgab", sum := "73ed5875f5c87675680cd32b245c4b930fe3e203e929c5db5c8288fc1a548b32", func := "linotype/linotypelaw15.SegSteps", spec := "segSteps", apart := false, narrowed := true }
def SegStepsUptoSaid : Prop := segStepsUptoRow.holds Try.pinned (OpenSpec.upto segStepsSpec)

/-- 'linotypelaw15.SegCopies', WHERE WHAT IT READS IS OF BULK AT MOST 1048576: true; the input reads as it did. -/
def segCopiesUptoRow : OpenClaim := { program := "ytgdknabpdjohgab", sum := "73ed5875f5c87675680cd32b245c4b930fe3e203e929c5db5c8288fc1a548b32", func := "linotype/linotypelaw15.SegCopies", spec := "segCopies", apart := false, narrowed := true }
def SegCopiesUptoSaid : Prop := segCopiesUptoRow.holds Try.pinned (OpenSpec.upto segCopiesSpec)

/-- 'linotypelaw15.SegBreaks', WHERE WHAT IT READS IS OF BULK AT MOST 1048576: true; the input reads as it did. -/
def segBreaksUptoRow : OpenClaim := { program := "ytgdknabpdjohgab", sum := "73ed5875f5c87675680cd32b245c4b930fe3e203e929c5db5c8288fc1a548b32", func := "linotype/linotypelaw15.SegBreaks", spec := "segBreaks", apart := false, narrowed := true }
def SegBreaksUptoSaid : Prop := segBreaksUptoRow.holds Try.pinned (OpenSpec.upto segBreaksSpec)

/-- 'linotypelaw20.ClusterKeeps', WHERE WHAT IT READS IS OF BULK AT MOST 1048576: true; the input reads as it did. -/
def clusterKeepsUptoRow : OpenClaim := { program := "ytgdknabpdjohgab", sum := "73ed5875f5c87675680cd32b245c4b930fe3e203e929c5db5c8288fc1a548b32", func := "linotype/linotypelaw20.ClusterKeeps", spec := "clusterKeeps", apart := false, narrowed := true }
def ClusterKeepsUptoSaid : Prop := clusterKeepsUptoRow.holds Try.pinned (OpenSpec.upto clusterKeepsSpec)

/-- 'linotypelaw20.ClusterSame', WHERE WHAT IT READS IS OF BULK AT MOST 1048576: true; the input reads as it did. -/
def clusterSameUptoRow : OpenClaim := { program := "ytgdknabpdjohgab", sum := "73ed5875f5c87675680cd32b245c4b930fe3e203e929c5db5c8288fc1a548b32", func := "linotype/linotypelaw20.ClusterSame", spec := "clusterSame", apart := false, narrowed := true }
def ClusterSameUptoSaid : Prop := clusterSameUptoRow.holds Try.pinned (OpenSpec.upto clusterSameSpec)

/-- 'linotypelaw31.CursorTells', WHERE WHAT IT READS IS OF BULK AT MOST 1048576: true; the input reads as it did. -/
def cursorTellsUptoRow : OpenClaim := { program := "ytgdknabpdjohgab", sum := "73ed5875f5c87675680cd32b245c4b930fe3e203e929c5db5c8288fc1a548b32", func := "linotype/linotypelaw31.CursorTells", spec := "cursorTells", apart := false, narrowed := true }
def CursorTellsUptoSaid : Prop := cursorTellsUptoRow.holds Try.pinned (OpenSpec.upto cursorTellsSpec)

/-- 'linotypelaw48.BoundTells', WHERE WHAT IT READS IS OF BULK AT MOST 1048576: true; the input reads as it did. -/
def boundTellsUptoRow : OpenClaim := { program := "ytgdknabpdjohgab", sum := "73ed5875f5c87675680cd32b245c4b930fe3e203e929c5db5c8288fc1a548b32", func := "linotype/linotypelaw48.BoundTells", spec := "boundTells", apart := false, narrowed := true }
def BoundTellsUptoSaid : Prop := boundTellsUptoRow.holds Try.pinned (OpenSpec.upto boundTellsSpec)

end Rows
end Go.Proofs.Ytgdknabpdjohgab
