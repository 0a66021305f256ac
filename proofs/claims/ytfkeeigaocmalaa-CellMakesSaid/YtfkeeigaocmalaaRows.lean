/-
  No cell of these rows narrows 'for every input' (looked for: loops, veiled, ifaces, maps, wideKeys, modest, calm, conditions, laid).
  DERIVED. THE GIVEN ROWS OF THIS SEAT. 6 by the template 'for every input the law returns true; each argument reads behind the call as it read before'; 0 by the template 'total and deterministic' (their statements: YtfkeeigaocmalaaTotals.lean).
  GIVEN WITH THE SEED: the statements are not yours to turn. If you find one false, say at which input.
  Laid BY PROGRAM, IN A SANDBOX (cutbox-rows.mjs): the forced cells as the released guide's own fill.sh prints them over the translation ee774492fa4aacef… (all of the seat's roots in one cut). By AI agents, Wed Nov 11 2026. No macro, syntax, notation, axiom, sorry.
-/
import Derived.Test.YtfkeeigaocmalaaChecked
import GoSem.Claim
import GoSem.ClaimJoined
import GoSem.ClaimMapViews
import Derived.JoinedTies
import Derived.KernelRfl
namespace Go.Proofs.Ytfkeeigaocmalaa
/- THE CELL 'sum', in the pinned program and in every row, IS THE sha256 OF THE DUMP (.gsa) THAT YtfkeeigaocmalaaProg.lean LOADS. Nothing in Lean hashes anything: it is a label: what it is worth is what the hold of that sum in a sandbox is worth. -/
noncomputable def Try.pinned : Pinned := { name := "ytfkeeigaocmalaa", sum := "ee774492fa4aacef735f19c6b5ae1b783c109ee3cc5bda36c37e3c4c8bb3f6b2", checked := Try.checked }
namespace Rows
def none {H : Type} : Left H := { results := [], args := [] }

/-- 'linotypelaw19.CwidthSteps': WHATEVER THE INPUT: true; the input reads as it did. -/
def cwidthStepsSpec : ChangeSpec := { name := "cwidthSteps", fn := fun _ => fun
  | [d1, d2] => { results := [.lit (.bool true)], args := [d1, d2] }
  | _ => none }
def cwidthStepsRow : OpenClaim := { program := "ytfkeeigaocmalaa", sum := "ee774492fa4aacef735f19c6b5ae1b783c109ee3cc5bda36c37e3c4c8bb3f6b2", func := "linotype/linotypelaw19.CwidthSteps", spec := "cwidthSteps", unfollowed := true, recurses := true, apart := false }
def CwidthStepsSaid : Prop := cwidthStepsRow.holds Try.pinned (OpenSpec.ofChange cwidthStepsSpec)

/-- ITS FALSE NEIGHBOUR: 'it returns false'. Refute it at one input. -/
def cwidthStepsWrong : ChangeSpec := { name := "cwidthSteps", fn := fun _ => fun
  | [d1, d2] => { results := [.lit (.bool false)], args := [d1, d2] }
  | _ => none }
def CwidthStepsWrongFalsely : Prop := cwidthStepsRow.holds Try.pinned (OpenSpec.ofChange cwidthStepsWrong)

/-- 'linotypelaw23.CellTells': WHATEVER THE INPUT: true; the input reads as it did. -/
def cellTellsSpec : ChangeSpec := { name := "cellTells", fn := fun _ => fun
  | [d1, d2] => { results := [.lit (.bool true)], args := [d1, d2] }
  | _ => none }
def cellTellsRow : OpenClaim := { program := "ytfkeeigaocmalaa", sum := "ee774492fa4aacef735f19c6b5ae1b783c109ee3cc5bda36c37e3c4c8bb3f6b2", func := "linotype/linotypelaw23.CellTells", spec := "cellTells", unfollowed := true, recurses := true, apart := false }
def CellTellsSaid : Prop := cellTellsRow.holds Try.pinned (OpenSpec.ofChange cellTellsSpec)

/-- ITS FALSE NEIGHBOUR: 'it returns false'. Refute it at one input. -/
def cellTellsWrong : ChangeSpec := { name := "cellTells", fn := fun _ => fun
  | [d1, d2] => { results := [.lit (.bool false)], args := [d1, d2] }
  | _ => none }
def CellTellsWrongFalsely : Prop := cellTellsRow.holds Try.pinned (OpenSpec.ofChange cellTellsWrong)

/-- 'linotypelaw23.CellMakes': WHATEVER THE INPUT: true; the input reads as it did. -/
def cellMakesSpec : ChangeSpec := { name := "cellMakes", fn := fun _ => fun
  | [d1, d2] => { results := [.lit (.bool true)], args := [d1, d2] }
  | _ => none }
def cellMakesRow : OpenClaim := { program := "ytfkeeigaocmalaa", sum := "ee774492fa4aacef735f19c6b5ae1b783c109ee3cc5bda36c37e3c4c8bb3f6b2", func := "linotype/linotypelaw23.CellMakes", spec := "cellMakes", unfollowed := true, recurses := true, apart := false }
def CellMakesSaid : Prop := cellMakesRow.holds Try.pinned (OpenSpec.ofChange cellMakesSpec)

/-- ITS FALSE NEIGHBOUR: 'it returns false'. Refute it at one input. -/
def cellMakesWrong : ChangeSpec := { name := "cellMakes", fn := fun _ => fun
  | [d1, d2] => { results := [.lit (.bool false)], args := [d1, d2] }
  | _ => none }
def CellMakesWrongFalsely : Prop := cellMakesRow.holds Try.pinned (OpenSpec.ofChange cellMakesWrong)

/-- 'linotypelaw16.GraphemeParts': WHATEVER THE INPUT: true; the input reads as it did. -/
def graphemePartsSpec : ChangeSpec := { name := "graphemeParts", fn := fun _ => fun
  | [d] => { results := [.lit (.bool true)], args := [d] }
  | _ => none }
def graphemePartsRow : OpenClaim := { program := "ytfkeeigaocmalaa", sum := "ee774492fa4aacef735f19c6b5ae1b783c109ee3cc5bda36c37e3c4c8bb3f6b2", func := "linotype/linotypelaw16.GraphemeParts", spec := "graphemeParts", unfollowed := true, recurses := true, apart := false }
def GraphemePartsSaid : Prop := graphemePartsRow.holds Try.pinned (OpenSpec.ofChange graphemePartsSpec)

/-- ITS FALSE NEIGHBOUR: 'it returns false'. Refute it at one input. -/
def graphemePartsWrong : ChangeSpec := { name := "graphemeParts", fn := fun _ => fun
  | [d] => { results := [.lit (.bool false)], args := [d] }
  | _ => none }
def GraphemePartsWrongFalsely : Prop := graphemePartsRow.holds Try.pinned (OpenSpec.ofChange graphemePartsWrong)

/-- 'linotypelaw16.GraphemeHands': WHATEVER THE INPUT: true; the input reads as it did. -/
def graphemeHandsSpec : ChangeSpec := { name := "graphemeHands", fn := fun _ => fun
  | [d1, d2] => { results := [.lit (.bool true)], args := [d1, d2] }
  | _ => none }
def graphemeHandsRow : OpenClaim := { program := "ytfkeeigaocmalaa", sum := "ee774492fa4aacef735f19c6b5ae1b783c109ee3cc5bda36c37e3c4c8bb3f6b2", func := "linotype/linotypelaw16.GraphemeHands", spec := "graphemeHands", unfollowed := true, recurses := true, apart := false }
def GraphemeHandsSaid : Prop := graphemeHandsRow.holds Try.pinned (OpenSpec.ofChange graphemeHandsSpec)

/-- ITS FALSE NEIGHBOUR: 'it returns false'. Refute it at one input. -/
def graphemeHandsWrong : ChangeSpec := { name := "graphemeHands", fn := fun _ => fun
  | [d1, d2] => { results := [.lit (.bool false)], args := [d1, d2] }
  | _ => none }
def GraphemeHandsWrongFalsely : Prop := graphemeHandsRow.holds Try.pinned (OpenSpec.ofChange graphemeHandsWrong)

/-- 'linotypelaw16.GraphemeCuts': WHATEVER THE INPUT: true; the input reads as it did. -/
def graphemeCutsSpec : ChangeSpec := { name := "graphemeCuts", fn := fun _ => fun
  | [d1, d2] => { results := [.lit (.bool true)], args := [d1, d2] }
  | _ => none }
def graphemeCutsRow : OpenClaim := { program := "ytfkeeigaocmalaa", sum := "ee774492fa4aacef735f19c6b5ae1b783c109ee3cc5bda36c37e3c4c8bb3f6b2", func := "linotype/linotypelaw16.GraphemeCuts", spec := "graphemeCuts", unfollowed := true, recurses := true, apart := false }
def GraphemeCutsSaid : Prop := graphemeCutsRow.holds Try.pinned (OpenSpec.ofChange graphemeCutsSpec)

/-- ITS FALSE NEIGHBOUR: 'it returns false'. Refute it at one input. -/
def graphemeCutsWrong : ChangeSpec := { name := "graphemeCuts", fn := fun _ => fun
  | [d1, d2] => { results := [.lit (.bool false)], args := [d1, d2] }
  | _ => none }
def GraphemeCutsWrongFalsely : Prop := graphemeCutsRow.holds Try.pinned (OpenSpec.ofChange graphemeCutsWrong)

/- THE SECOND FORM. 'bulk': how many values and letters a reading holds, each counted each time it is reached (what is shared counts as often as it is met; a slice's spare places count too). A statement '..UptoSaid' is the law's where the arguments, and the package variables that the reading takes, are together of bulk at most 1048576: NARROWER than '..Said'. Prove '..Said' where nothing that the law and all that it calls make is longer than what came in: it says more and counts as full. Else prove '..UptoSaid'. A law counts once. -/
mutual
def uptoBulk {H : Type} : DataW H → Nat
  | .lit (.string bytes) => bytes.length + 1
  | .lit _ => 1
  | .nil => 1
  | .ptr d => uptoBulk d + 1
  | .slice elems spare => uptoBulkAll elems + uptoBulkAll spare + 1
  | .agg parts => uptoBulkAll parts + 1
  | .iface _ d => uptoBulk d + 1
  | .map entries => uptoBulkEntries entries + 1
  | .held _ => 1
def uptoBulkAll {H : Type} : List (DataW H) → Nat
  | [] => 0
  | d :: r => uptoBulk d + uptoBulkAll r
def uptoBulkEntries {H : Type} : List (Lit × DataW H) → Nat
  | [] => 0
  | x :: r => uptoBulkEntry x + uptoBulkEntries r
def uptoBulkEntry {H : Type} : Lit × DataW H → Nat
  | (.string bytes, d) => bytes.length + uptoBulk d + 1
  | (_, d) => uptoBulk d + 1
 end
def uptoSmall : (H : Type) → List (DataW H) → Bool := fun _ ds => decide (uptoBulkAll ds ≤ 1048576)
def OpenSpec.upto (s : _root_.Go.ChangeSpec) : _root_.Go.OpenSpec := { _root_.Go.OpenSpec.ofChange s with cond := some uptoSmall }

/-- 'linotypelaw19.CwidthSteps', WHERE WHAT IT READS IS OF BULK AT MOST 1048576: true; the input reads as it did. -/
def cwidthStepsUptoRow : OpenClaim := { program := "ytfkeeigaocmalaa", sum := "ee774492fa4aacef735f19c6b5ae1b783c109ee3cc5bda36c37e3c4c8bb3f6b2", func := "linotype/linotypelaw19.CwidthSteps", spec := "cwidthSteps", unfollowed := true, recurses := true, apart := false, narrowed := true }
def CwidthStepsUptoSaid : Prop := cwidthStepsUptoRow.holds Try.pinned (OpenSpec.upto cwidthStepsSpec)

/-- 'linotypelaw23.CellTells', WHERE WHAT IT READS IS OF BULK AT MOST 1048576: true; the input reads as it did. -/
def cellTellsUptoRow : OpenClaim := { program := "ytfkeeigaocmalaa", sum := "ee774492fa4aacef735f19c6b5ae1b783c109ee3cc5bda36c37e3c4c8bb3f6b2", func := "linotype/linotypelaw23.CellTells", spec := "cellTells", unfollowed := true, recurses := true, apart := false, narrowed := true }
def CellTellsUptoSaid : Prop := cellTellsUptoRow.holds Try.pinned (OpenSpec.upto cellTellsSpec)

/-- 'linotypelaw23.CellMakes', WHERE WHAT IT READS IS OF BULK AT MOST 1048576: true; the input reads as it did. -/
def cellMakesUptoRow : OpenClaim := { program := "ytfkeeigaocmalaa", sum := "ee774492fa4aacef735f19c6b5ae1b783c109ee3cc5bda36c37e3c4c8bb3f6b2", func := "linotype/linotypelaw23.CellMakes", spec := "cellMakes", unfollowed := true, recurses := true, apart := false, narrowed := true }
def CellMakesUptoSaid : Prop := cellMakesUptoRow.holds Try.pinned (OpenSpec.upto cellMakesSpec)

/-- 'linotypelaw16.GraphemeParts', WHERE WHAT IT READS IS OF BULK AT MOST 1048576: true; the input reads as it did. -/
def graphemePartsUptoRow : OpenClaim := { program := "ytfkeeigaocmalaa", sum := "ee774492fa4aacef735f19c6b5ae1b783c109ee3cc5bda36c37e3c4c8bb3f6b2", func := "linotype/linotypelaw16.GraphemeParts", spec := "graphemeParts", unfollowed := true, recurses := true, apart := false, narrowed := true }
def GraphemePartsUptoSaid : Prop := graphemePartsUptoRow.holds Try.pinned (OpenSpec.upto graphemePartsSpec)

/-- 'linotypelaw16.GraphemeHands', WHERE WHAT IT READS IS OF BULK AT MOST 1048576: true; the input reads as it did. -/
def graphemeHandsUptoRow : OpenClaim := { program := "ytfkeeigaocmalaa", sum := "ee774492fa4aacef735f19c6b5ae1b783c109ee3cc5bda36c37e3c4c8bb3f6b2", func := "linotype/linotypelaw16.GraphemeHands", spec := "graphemeHands", unfollowed := true, recurses := true, apart := false, narrowed := true }
def GraphemeHandsUptoSaid : Prop := graphemeHandsUptoRow.holds Try.pinned (OpenSpec.upto graphemeHandsSpec)

/-- 'linotypelaw16.GraphemeCuts', WHERE WHAT IT READS IS OF BULK AT MOST 1048576: true; the input reads as it did. -/
def graphemeCutsUptoRow : OpenClaim := { program := "ytfkeeigaocmalaa", sum := "ee774492fa4aacef735f19c6b5ae1b783c109ee3cc5bda36c37e3c4c8bb3f6b2", func := "linotype/linotypelaw16.GraphemeCuts", spec := "graphemeCuts", unfollowed := true, recurses := true, apart := false, narrowed := true }
def GraphemeCutsUptoSaid : Prop := graphemeCutsUptoRow.holds Try.pinned (OpenSpec.upto graphemeCutsSpec)

end Rows
end Go.Proofs.Ytfkeeigaocmalaa
