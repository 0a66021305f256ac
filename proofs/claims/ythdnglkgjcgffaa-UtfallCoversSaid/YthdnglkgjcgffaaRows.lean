/-
  No cell of these rows narrows 'for every input' (looked for: loops, veiled, ifaces, maps, wideKeys, modest, calm, conditions, laid).
  DERIVED. THE GIVEN ROWS OF THIS SEAT. 9 by the template 'for every input the law returns true; each argument reads behind the call as it read before'; 0 by the template 'total and deterministic' (their statements: YthdnglkgjcgffaaTotals.lean).
  GIVEN WITH THE SEED: the statements are not yours to turn. If you find one false, say at which input.
  Laid BY PROGRAM, IN A SANDBOX (cutbox-rows.mjs): the forced cells as the released guide's own fill.sh prints them over the translation 5791c927120771fa… (all of the seat's roots in one cut). By AI agents, Wed Nov 11 2026. No macro, syntax, notation, axiom, sorry.
-/
import Derived.Test.YthdnglkgjcgffaaChecked
import GoSem.Claim
import GoSem.ClaimJoined
import GoSem.ClaimMapViews
import Derived.JoinedTies
import Derived.KernelRfl
namespace Go.Proofs.Ythdnglkgjcgffaa
/- THE CELL 'sum', in the pinned program and in every row, IS THE sha256 OF THE DUMP (.gsa) THAT YthdnglkgjcgffaaProg.lean LOADS. Nothing in Lean hashes anything: it is a label: what it is worth is what the hold of that sum in a sandbox is worth. -/
noncomputable def Try.pinned : Pinned := { name := "ythdnglkgjcgffaa", sum := "5791c927120771fa293b3ae5746d2e41c7f9034f59949542c7e94d317e98eac2", checked := Try.checked }
namespace Rows
def none {H : Type} : Left H := { results := [], args := [] }

/-- 'linotypelaw15.SegSteps': WHATEVER THE INPUT: true; the input reads as it did. -/
def segStepsSpec : ChangeSpec := { name := "segSteps", fn := fun _ => fun
  | [d] => { results := [.lit (.bool true)], args := [d] }
  | _ => none }
def segStepsRow : OpenClaim := { program := "ythdnglkgjcgffaa", sum := "5791c927120771fa293b3ae5746d2e41c7f9034f59949542c7e94d317e98eac2", func := "linotype/linotypelaw15.SegSteps", spec := "segSteps", apart := false }
def SegStepsSaid : Prop := segStepsRow.holds Try.pinned (OpenSpec.ofChange segStepsSpec)

/-- ITS FALSE NEIGHBOUR: 'it returns false'. Refute it at one input. -/
def segStepsWrong : ChangeSpec := { name := "segSteps", fn := fun _ => fun
  | [d] => { results := [.lit (.bool false)], args := [d] }
  | _ => none }
def SegStepsWrongFalsely : Prop := segStepsRow.holds Try.pinned (OpenSpec.ofChange segStepsWrong)

/-- 'linotypelaw15.SegBreaks': WHATEVER THE INPUT: true; the input reads as it did. -/
def segBreaksSpec : ChangeSpec := { name := "segBreaks", fn := fun _ => fun
  | [d1, d2, d3] => { results := [.lit (.bool true)], args := [d1, d2, d3] }
  | _ => none }
def segBreaksRow : OpenClaim := { program := "ythdnglkgjcgffaa", sum := "5791c927120771fa293b3ae5746d2e41c7f9034f59949542c7e94d317e98eac2", func := "linotype/linotypelaw15.SegBreaks", spec := "segBreaks", apart := false }
def SegBreaksSaid : Prop := segBreaksRow.holds Try.pinned (OpenSpec.ofChange segBreaksSpec)

/-- ITS FALSE NEIGHBOUR: 'it returns false'. Refute it at one input. -/
def segBreaksWrong : ChangeSpec := { name := "segBreaks", fn := fun _ => fun
  | [d1, d2, d3] => { results := [.lit (.bool false)], args := [d1, d2, d3] }
  | _ => none }
def SegBreaksWrongFalsely : Prop := segBreaksRow.holds Try.pinned (OpenSpec.ofChange segBreaksWrong)

/-- 'linotypelaw15.SegCopies': WHATEVER THE INPUT: true; the input reads as it did. -/
def segCopiesSpec : ChangeSpec := { name := "segCopies", fn := fun _ => fun
  | [d1, d2] => { results := [.lit (.bool true)], args := [d1, d2] }
  | _ => none }
def segCopiesRow : OpenClaim := { program := "ythdnglkgjcgffaa", sum := "5791c927120771fa293b3ae5746d2e41c7f9034f59949542c7e94d317e98eac2", func := "linotype/linotypelaw15.SegCopies", spec := "segCopies", apart := false }
def SegCopiesSaid : Prop := segCopiesRow.holds Try.pinned (OpenSpec.ofChange segCopiesSpec)

/-- ITS FALSE NEIGHBOUR: 'it returns false'. Refute it at one input. -/
def segCopiesWrong : ChangeSpec := { name := "segCopies", fn := fun _ => fun
  | [d1, d2] => { results := [.lit (.bool false)], args := [d1, d2] }
  | _ => none }
def SegCopiesWrongFalsely : Prop := segCopiesRow.holds Try.pinned (OpenSpec.ofChange segCopiesWrong)

/-- 'linotypelaw03.UtfdecSteps': WHATEVER THE INPUT: true; the input reads as it did. -/
def utfdecStepsSpec : ChangeSpec := { name := "utfdecSteps", fn := fun _ => fun
  | [d] => { results := [.lit (.bool true)], args := [d] }
  | _ => none }
def utfdecStepsRow : OpenClaim := { program := "ythdnglkgjcgffaa", sum := "5791c927120771fa293b3ae5746d2e41c7f9034f59949542c7e94d317e98eac2", func := "linotype/linotypelaw03.UtfdecSteps", spec := "utfdecSteps", recurses := true, apart := false }
def UtfdecStepsSaid : Prop := utfdecStepsRow.holds Try.pinned (OpenSpec.ofChange utfdecStepsSpec)

/-- ITS FALSE NEIGHBOUR: 'it returns false'. Refute it at one input. -/
def utfdecStepsWrong : ChangeSpec := { name := "utfdecSteps", fn := fun _ => fun
  | [d] => { results := [.lit (.bool false)], args := [d] }
  | _ => none }
def UtfdecStepsWrongFalsely : Prop := utfdecStepsRow.holds Try.pinned (OpenSpec.ofChange utfdecStepsWrong)

/-- 'linotypelaw04.UtfallParts': WHATEVER THE INPUT: true; the input reads as it did. -/
def utfallPartsSpec : ChangeSpec := { name := "utfallParts", fn := fun _ => fun
  | [d] => { results := [.lit (.bool true)], args := [d] }
  | _ => none }
def utfallPartsRow : OpenClaim := { program := "ythdnglkgjcgffaa", sum := "5791c927120771fa293b3ae5746d2e41c7f9034f59949542c7e94d317e98eac2", func := "linotype/linotypelaw04.UtfallParts", spec := "utfallParts", recurses := true, apart := false }
def UtfallPartsSaid : Prop := utfallPartsRow.holds Try.pinned (OpenSpec.ofChange utfallPartsSpec)

/-- ITS FALSE NEIGHBOUR: 'it returns false'. Refute it at one input. -/
def utfallPartsWrong : ChangeSpec := { name := "utfallParts", fn := fun _ => fun
  | [d] => { results := [.lit (.bool false)], args := [d] }
  | _ => none }
def UtfallPartsWrongFalsely : Prop := utfallPartsRow.holds Try.pinned (OpenSpec.ofChange utfallPartsWrong)

/-- 'linotypelaw04.UtfallCovers': WHATEVER THE INPUT: true; the input reads as it did. -/
def utfallCoversSpec : ChangeSpec := { name := "utfallCovers", fn := fun _ => fun
  | [d] => { results := [.lit (.bool true)], args := [d] }
  | _ => none }
def utfallCoversRow : OpenClaim := { program := "ythdnglkgjcgffaa", sum := "5791c927120771fa293b3ae5746d2e41c7f9034f59949542c7e94d317e98eac2", func := "linotype/linotypelaw04.UtfallCovers", spec := "utfallCovers", apart := false }
def UtfallCoversSaid : Prop := utfallCoversRow.holds Try.pinned (OpenSpec.ofChange utfallCoversSpec)

/-- ITS FALSE NEIGHBOUR: 'it returns false'. Refute it at one input. -/
def utfallCoversWrong : ChangeSpec := { name := "utfallCovers", fn := fun _ => fun
  | [d] => { results := [.lit (.bool false)], args := [d] }
  | _ => none }
def UtfallCoversWrongFalsely : Prop := utfallCoversRow.holds Try.pinned (OpenSpec.ofChange utfallCoversWrong)

/-- 'linotypelaw04.UtfallDecodes': WHATEVER THE INPUT: true; the input reads as it did. -/
def utfallDecodesSpec : ChangeSpec := { name := "utfallDecodes", fn := fun _ => fun
  | [d] => { results := [.lit (.bool true)], args := [d] }
  | _ => none }
def utfallDecodesRow : OpenClaim := { program := "ythdnglkgjcgffaa", sum := "5791c927120771fa293b3ae5746d2e41c7f9034f59949542c7e94d317e98eac2", func := "linotype/linotypelaw04.UtfallDecodes", spec := "utfallDecodes", apart := false }
def UtfallDecodesSaid : Prop := utfallDecodesRow.holds Try.pinned (OpenSpec.ofChange utfallDecodesSpec)

/-- ITS FALSE NEIGHBOUR: 'it returns false'. Refute it at one input. -/
def utfallDecodesWrong : ChangeSpec := { name := "utfallDecodes", fn := fun _ => fun
  | [d] => { results := [.lit (.bool false)], args := [d] }
  | _ => none }
def UtfallDecodesWrongFalsely : Prop := utfallDecodesRow.holds Try.pinned (OpenSpec.ofChange utfallDecodesWrong)

/-- 'linotypelaw04.UtfallJoins': WHATEVER THE INPUT: true; the input reads as it did. -/
def utfallJoinsSpec : ChangeSpec := { name := "utfallJoins", fn := fun _ => fun
  | [d1, d2] => { results := [.lit (.bool true)], args := [d1, d2] }
  | _ => none }
def utfallJoinsRow : OpenClaim := { program := "ythdnglkgjcgffaa", sum := "5791c927120771fa293b3ae5746d2e41c7f9034f59949542c7e94d317e98eac2", func := "linotype/linotypelaw04.UtfallJoins", spec := "utfallJoins", apart := false }
def UtfallJoinsSaid : Prop := utfallJoinsRow.holds Try.pinned (OpenSpec.ofChange utfallJoinsSpec)

/-- ITS FALSE NEIGHBOUR: 'it returns false'. Refute it at one input. -/
def utfallJoinsWrong : ChangeSpec := { name := "utfallJoins", fn := fun _ => fun
  | [d1, d2] => { results := [.lit (.bool false)], args := [d1, d2] }
  | _ => none }
def UtfallJoinsWrongFalsely : Prop := utfallJoinsRow.holds Try.pinned (OpenSpec.ofChange utfallJoinsWrong)

/-- 'linotypelaw06.SpansTell': WHATEVER THE INPUT: true; the input reads as it did. -/
def spansTellSpec : ChangeSpec := { name := "spansTell", fn := fun _ => fun
  | [d1, d2] => { results := [.lit (.bool true)], args := [d1, d2] }
  | _ => none }
def spansTellRow : OpenClaim := { program := "ythdnglkgjcgffaa", sum := "5791c927120771fa293b3ae5746d2e41c7f9034f59949542c7e94d317e98eac2", func := "linotype/linotypelaw06.SpansTell", spec := "spansTell", unfollowed := true, recurses := true, apart := false }
def SpansTellSaid : Prop := spansTellRow.holds Try.pinned (OpenSpec.ofChange spansTellSpec)

/-- ITS FALSE NEIGHBOUR: 'it returns false'. Refute it at one input. -/
def spansTellWrong : ChangeSpec := { name := "spansTell", fn := fun _ => fun
  | [d1, d2] => { results := [.lit (.bool false)], args := [d1, d2] }
  | _ => none }
def SpansTellWrongFalsely : Prop := spansTellRow.holds Try.pinned (OpenSpec.ofChange spansTellWrong)

/- THE SECOND FORM. 'bulk': how many values and letters a reading holds, each counted each time it is reached (what is shared counts as often as it is met; a slice's spare places count too). A statement '..UptoSaid' is the law's where the arguments, and the package variables that the reading takes, are together of bulk at most 1048576: NARROWER than '..Said'. Prove '..Said' where nothing that the law and all that it calls make is longer than what came in: it says more and counts as full. Else prove '..UptoSaid'. A law counts once. -/
mutual
def uptoBulk {H : Type} : DataW H → Nat
  | .lit (.string bytes) => bytes.length + 1
  | .lit _ => 1
  | .nil => 1
  | .ptr d => uptoBulk d + 1
  | .slice elems spare => uptoBulkAll elems + uptoBulkAll spare + 1
  | .agg parts => uptoBulkAll parts + 1
  | .iface _ d => uptoBulk d + 1
  | .map entries => uptoBulkEntries entries + 1
  | .held _ => 1
def uptoBulkAll {H : Type} : List (DataW H) → Nat
  | [] => 0
  | d :: r => uptoBulk d + uptoBulkAll r
def uptoBulkEntries {H : Type} : List (Lit × DataW H) → Nat
  | [] => 0
  | x :: r => uptoBulkEntry x + uptoBulkEntries r
def uptoBulkEntry {H : Type} : Lit × DataW H → Nat
  | (.string bytes, d) => bytes.length + uptoBulk d + 1
  | (_, d) => uptoBulk d + 1
 end
def uptoSmall : (H : Type) → List (DataW H) → Bool := fun _ ds => decide (uptoBulkAll ds ≤ 1048576)
def OpenSpec.upto (s : _root_.Go.ChangeSpec) : _root_.Go.OpenSpec := { _root_.Go.OpenSpec.ofChange s with cond := some uptoSmall }

/-- 'linotypelaw15.SegSteps', WHERE WHAT IT READS IS OF BULK AT MOST 1048576: true; the input reads as it did. -/
def segStepsUptoRow : OpenClaim := { program := "ythdnglkgjcgffaa", sum := "5791c927120771fa293b3ae5746d2e41c7f9034f59949542c7e94d317e98eac2", func := "linotype/linotypelaw15.SegSteps", spec := "segSteps", apart := false, narrowed := true }
def SegStepsUptoSaid : Prop := segStepsUptoRow.holds Try.pinned (OpenSpec.upto segStepsSpec)

/-- 'linotypelaw15.SegBreaks', WHERE WHAT IT READS IS OF BULK AT MOST 1048576: true; the input reads as it did. -/
def segBreaksUptoRow : OpenClaim := { program := "ythdnglkgjcgffaa", sum := "5791c927120771fa293b3ae5746d2e41c7f9034f59949542c7e94d317e98eac2", func := "linotype/linotypelaw15.SegBreaks", spec := "segBreaks", apart := false, narrowed := true }
def SegBreaksUptoSaid : Prop := segBreaksUptoRow.holds Try.pinned (OpenSpec.upto segBreaksSpec)

/-- 'linotypelaw15.SegCopies', WHERE WHAT IT READS IS OF BULK AT MOST 1048576: true; the input reads as it did. -/
def segCopiesUptoRow : OpenClaim := { program := "ythdnglkgjcgffaa", sum := "5791c927120771fa293b3ae5746d2e41c7f9034f59949542c7e94d317e98eac2", func := "linotype/linotypelaw15.SegCopies", spec := "segCopies", apart := false, narrowed := true }
def SegCopiesUptoSaid : Prop := segCopiesUptoRow.holds Try.pinned (OpenSpec.upto segCopiesSpec)

/-- 'linotypelaw03.UtfdecSteps', WHERE WHAT IT READS IS OF BULK AT MOST 1048576: true; the input reads as it did. -/
def utfdecStepsUptoRow : OpenClaim := { program := "ythdnglkgjcgffaa", sum := "5791c927120771fa293b3ae5746d2e41c7f9034f59949542c7e94d317e98eac2", func := "linotype/linotypelaw03.UtfdecSteps", spec := "utfdecSteps", recurses := true, apart := false, narrowed := true }
def UtfdecStepsUptoSaid : Prop := utfdecStepsUptoRow.holds Try.pinned (OpenSpec.upto utfdecStepsSpec)

/-- 'linotypelaw04.UtfallParts', WHERE WHAT IT READS IS OF BULK AT MOST 1048576: true; the input reads as it did. -/
def utfallPartsUptoRow : OpenClaim := { program := "ythdnglkgjcgffaa", sum := "5791c927120771fa293b3ae5746d2e41c7f9034f59949542c7e94d317e98eac2", func := "linotype/linotypelaw04.UtfallParts", spec := "utfallParts", recurses := true, apart := false, narrowed := true }
def UtfallPartsUptoSaid : Prop := utfallPartsUptoRow.holds Try.pinned (OpenSpec.upto utfallPartsSpec)

/-- 'linotypelaw04.UtfallCovers', WHERE WHAT IT READS IS OF BULK AT MOST 1048576: true; the input reads as it did. -/
def utfallCoversUptoRow : OpenClaim := { program := "ythdnglkgjcgffaa", sum := "5791c927120771fa293b3ae5746d2e41c7f9034f59949542c7e94d317e98eac2", func := "linotype/linotypelaw04.UtfallCovers", spec := "utfallCovers", apart := false, narrowed := true }
def UtfallCoversUptoSaid : Prop := utfallCoversUptoRow.holds Try.pinned (OpenSpec.upto utfallCoversSpec)

/-- 'linotypelaw04.UtfallDecodes', WHERE WHAT IT READS IS OF BULK AT MOST 1048576: true; the input reads as it did. -/
def utfallDecodesUptoRow : OpenClaim := { program := "ythdnglkgjcgffaa", sum := "5791c927120771fa293b3ae5746d2e41c7f9034f59949542c7e94d317e98eac2", func := "linotype/linotypelaw04.UtfallDecodes", spec := "utfallDecodes", apart := false, narrowed := true }
def UtfallDecodesUptoSaid : Prop := utfallDecodesUptoRow.holds Try.pinned (OpenSpec.upto utfallDecodesSpec)

/-- 'linotypelaw04.UtfallJoins', WHERE WHAT IT READS IS OF BULK AT MOST 1048576: true; the input reads as it did. -/
def utfallJoinsUptoRow : OpenClaim := { program := "ythdnglkgjcgffaa", sum := "5791c927120771fa293b3ae5746d2e41c7f9034f59949542c7e94d317e98eac2", func := "linotype/linotypelaw04.UtfallJoins", spec := "utfallJoins", apart := false, narrowed := true }
def UtfallJoinsUptoSaid : Prop := utfallJoinsUptoRow.holds Try.pinned (OpenSpec.upto utfallJoinsSpec)

/-- 'linotypelaw06.SpansTell', WHERE WHAT IT READS IS OF BULK AT MOST 1048576: true; the input reads as it did. -/
def spansTellUptoRow : OpenClaim := { program := "ythdnglkgjcgffaa", sum := "5791c927120771fa293b3ae5746d2e41c7f9034f59949542c7e94d317e98eac2", func := "linotype/linotypelaw06.SpansTell", spec := "spansTell", unfollowed := true, recurses := true, apart := false, narrowed := true }
def SpansTellUptoSaid : Prop := spansTellUptoRow.holds Try.pinned (OpenSpec.upto spansTellSpec)

end Rows
end Go.Proofs.Ythdnglkgjcgffaa
