/-
  No cell of these rows narrows 'for every input' (looked for: loops, veiled, ifaces, maps, wideKeys, modest, calm, conditions, laid).
  DERIVED. THE GIVEN ROWS OF THIS SEAT. 9 by the template 'for every input the law returns true; each argument reads behind the call as it read before'; 0 by the template 'total and deterministic' (their statements: YtgkcobmbdpgceaaTotals.lean).
  GIVEN WITH THE SEED: the statements are not yours to turn. If you find one false, say at which input.
  Laid BY PROGRAM, IN A SANDBOX (cutbox-rows.mjs): the forced cells as the released guide's own fill.sh prints them over the translation ce78b622649fdd7b… (all of the seat's roots in one cut). By AI agents, Wed Nov 11 2026. No macro, syntax, notation, axiom, sorry.
-/
import Derived.Test.YtgkcobmbdpgceaaChecked
import GoSem.Claim
import GoSem.ClaimJoined
import GoSem.ClaimMapViews
import Derived.JoinedTies
import Derived.KernelRfl
namespace Go.Proofs.Ytgkcobmbdpgceaa
/- THE CELL 'sum', in the pinned program and in every row, IS THE sha256 OF THE DUMP (.gsa) THAT YtgkcobmbdpgceaaProg.lean LOADS. Nothing in Lean hashes anything: it is a label: what it is worth is what the hold of that sum in a sandbox is worth. -/
noncomputable def Try.pinned : Pinned := { name := "ytgkcobmbdpgceaa", sum := "ce78b622649fdd7b5bc51e09915897e6fb452195db91779885d818589693a2c8", checked := Try.checked }
namespace Rows
def none {H : Type} : Left H := { results := [], args := [] }

/-- 'linotypelaw21.MeasureTells': WHATEVER THE INPUT: true; the input reads as it did. -/
def measureTellsSpec : ChangeSpec := { name := "measureTells", fn := fun _ => fun
  | [d] => { results := [.lit (.bool true)], args := [d] }
  | _ => none }
def measureTellsRow : OpenClaim := { program := "ytgkcobmbdpgceaa", sum := "ce78b622649fdd7b5bc51e09915897e6fb452195db91779885d818589693a2c8", func := "linotype/linotypelaw21.MeasureTells", spec := "measureTells", unfollowed := true, recurses := true, apart := false }
def MeasureTellsSaid : Prop := measureTellsRow.holds Try.pinned (OpenSpec.ofChange measureTellsSpec)

/-- ITS FALSE NEIGHBOUR: 'it returns false'. Refute it at one input. -/
def measureTellsWrong : ChangeSpec := { name := "measureTells", fn := fun _ => fun
  | [d] => { results := [.lit (.bool false)], args := [d] }
  | _ => none }
def MeasureTellsWrongFalsely : Prop := measureTellsRow.holds Try.pinned (OpenSpec.ofChange measureTellsWrong)

/-- 'linotypelaw21.MeasureHeads': WHATEVER THE INPUT: true; the input reads as it did. -/
def measureHeadsSpec : ChangeSpec := { name := "measureHeads", fn := fun _ => fun
  | [d1, d2] => { results := [.lit (.bool true)], args := [d1, d2] }
  | _ => none }
def measureHeadsRow : OpenClaim := { program := "ytgkcobmbdpgceaa", sum := "ce78b622649fdd7b5bc51e09915897e6fb452195db91779885d818589693a2c8", func := "linotype/linotypelaw21.MeasureHeads", spec := "measureHeads", unfollowed := true, recurses := true, apart := false }
def MeasureHeadsSaid : Prop := measureHeadsRow.holds Try.pinned (OpenSpec.ofChange measureHeadsSpec)

/-- ITS FALSE NEIGHBOUR: 'it returns false'. Refute it at one input. -/
def measureHeadsWrong : ChangeSpec := { name := "measureHeads", fn := fun _ => fun
  | [d1, d2] => { results := [.lit (.bool false)], args := [d1, d2] }
  | _ => none }
def MeasureHeadsWrongFalsely : Prop := measureHeadsRow.holds Try.pinned (OpenSpec.ofChange measureHeadsWrong)

/-- 'linotypelaw21.MeasureFits': WHATEVER THE INPUT: true; the input reads as it did. -/
def measureFitsSpec : ChangeSpec := { name := "measureFits", fn := fun _ => fun
  | [d1, d2] => { results := [.lit (.bool true)], args := [d1, d2] }
  | _ => none }
def measureFitsRow : OpenClaim := { program := "ytgkcobmbdpgceaa", sum := "ce78b622649fdd7b5bc51e09915897e6fb452195db91779885d818589693a2c8", func := "linotype/linotypelaw21.MeasureFits", spec := "measureFits", unfollowed := true, recurses := true, apart := false }
def MeasureFitsSaid : Prop := measureFitsRow.holds Try.pinned (OpenSpec.ofChange measureFitsSpec)

/-- ITS FALSE NEIGHBOUR: 'it returns false'. Refute it at one input. -/
def measureFitsWrong : ChangeSpec := { name := "measureFits", fn := fun _ => fun
  | [d1, d2] => { results := [.lit (.bool false)], args := [d1, d2] }
  | _ => none }
def MeasureFitsWrongFalsely : Prop := measureFitsRow.holds Try.pinned (OpenSpec.ofChange measureFitsWrong)

/-- 'linotypelaw22.FitlineBreaks': WHATEVER THE INPUT: true; the input reads as it did. -/
def fitlineBreaksSpec : ChangeSpec := { name := "fitlineBreaks", fn := fun _ => fun
  | [d1, d2] => { results := [.lit (.bool true)], args := [d1, d2] }
  | _ => none }
def fitlineBreaksRow : OpenClaim := { program := "ytgkcobmbdpgceaa", sum := "ce78b622649fdd7b5bc51e09915897e6fb452195db91779885d818589693a2c8", func := "linotype/linotypelaw22.FitlineBreaks", spec := "fitlineBreaks", unfollowed := true, recurses := true, apart := false }
def FitlineBreaksSaid : Prop := fitlineBreaksRow.holds Try.pinned (OpenSpec.ofChange fitlineBreaksSpec)

/-- ITS FALSE NEIGHBOUR: 'it returns false'. Refute it at one input. -/
def fitlineBreaksWrong : ChangeSpec := { name := "fitlineBreaks", fn := fun _ => fun
  | [d1, d2] => { results := [.lit (.bool false)], args := [d1, d2] }
  | _ => none }
def FitlineBreaksWrongFalsely : Prop := fitlineBreaksRow.holds Try.pinned (OpenSpec.ofChange fitlineBreaksWrong)

/-- 'linotypelaw22.FitlineFits': WHATEVER THE INPUT: true; the input reads as it did. -/
def fitlineFitsSpec : ChangeSpec := { name := "fitlineFits", fn := fun _ => fun
  | [d1, d2] => { results := [.lit (.bool true)], args := [d1, d2] }
  | _ => none }
def fitlineFitsRow : OpenClaim := { program := "ytgkcobmbdpgceaa", sum := "ce78b622649fdd7b5bc51e09915897e6fb452195db91779885d818589693a2c8", func := "linotype/linotypelaw22.FitlineFits", spec := "fitlineFits", unfollowed := true, recurses := true, apart := false }
def FitlineFitsSaid : Prop := fitlineFitsRow.holds Try.pinned (OpenSpec.ofChange fitlineFitsSpec)

/-- ITS FALSE NEIGHBOUR: 'it returns false'. Refute it at one input. -/
def fitlineFitsWrong : ChangeSpec := { name := "fitlineFits", fn := fun _ => fun
  | [d1, d2] => { results := [.lit (.bool false)], args := [d1, d2] }
  | _ => none }
def FitlineFitsWrongFalsely : Prop := fitlineFitsRow.holds Try.pinned (OpenSpec.ofChange fitlineFitsWrong)

/-- 'linotypelaw57.TabsKeep': WHATEVER THE INPUT: true; the input reads as it did. -/
def tabsKeepSpec : ChangeSpec := { name := "tabsKeep", fn := fun _ => fun
  | [d1, d2, d3] => { results := [.lit (.bool true)], args := [d1, d2, d3] }
  | _ => none }
def tabsKeepRow : OpenClaim := { program := "ytgkcobmbdpgceaa", sum := "ce78b622649fdd7b5bc51e09915897e6fb452195db91779885d818589693a2c8", func := "linotype/linotypelaw57.TabsKeep", spec := "tabsKeep", unfollowed := true, recurses := true, apart := false }
def TabsKeepSaid : Prop := tabsKeepRow.holds Try.pinned (OpenSpec.ofChange tabsKeepSpec)

/-- ITS FALSE NEIGHBOUR: 'it returns false'. Refute it at one input. -/
def tabsKeepWrong : ChangeSpec := { name := "tabsKeep", fn := fun _ => fun
  | [d1, d2, d3] => { results := [.lit (.bool false)], args := [d1, d2, d3] }
  | _ => none }
def TabsKeepWrongFalsely : Prop := tabsKeepRow.holds Try.pinned (OpenSpec.ofChange tabsKeepWrong)

/-- 'linotypelaw57.TabsExpand': WHATEVER THE INPUT: true; the input reads as it did. -/
def tabsExpandSpec : ChangeSpec := { name := "tabsExpand", fn := fun _ => fun
  | [d1, d2, d3] => { results := [.lit (.bool true)], args := [d1, d2, d3] }
  | _ => none }
def tabsExpandRow : OpenClaim := { program := "ytgkcobmbdpgceaa", sum := "ce78b622649fdd7b5bc51e09915897e6fb452195db91779885d818589693a2c8", func := "linotype/linotypelaw57.TabsExpand", spec := "tabsExpand", unfollowed := true, recurses := true, apart := false }
def TabsExpandSaid : Prop := tabsExpandRow.holds Try.pinned (OpenSpec.ofChange tabsExpandSpec)

/-- ITS FALSE NEIGHBOUR: 'it returns false'. Refute it at one input. -/
def tabsExpandWrong : ChangeSpec := { name := "tabsExpand", fn := fun _ => fun
  | [d1, d2, d3] => { results := [.lit (.bool false)], args := [d1, d2, d3] }
  | _ => none }
def TabsExpandWrongFalsely : Prop := tabsExpandRow.holds Try.pinned (OpenSpec.ofChange tabsExpandWrong)

/-- 'linotypelaw58.JustifyWide': WHATEVER THE INPUT: true; the input reads as it did. -/
def justifyWideSpec : ChangeSpec := { name := "justifyWide", fn := fun _ => fun
  | [d1, d2] => { results := [.lit (.bool true)], args := [d1, d2] }
  | _ => none }
def justifyWideRow : OpenClaim := { program := "ytgkcobmbdpgceaa", sum := "ce78b622649fdd7b5bc51e09915897e6fb452195db91779885d818589693a2c8", func := "linotype/linotypelaw58.JustifyWide", spec := "justifyWide", unfollowed := true, recurses := true, apart := false }
def JustifyWideSaid : Prop := justifyWideRow.holds Try.pinned (OpenSpec.ofChange justifyWideSpec)

/-- ITS FALSE NEIGHBOUR: 'it returns false'. Refute it at one input. -/
def justifyWideWrong : ChangeSpec := { name := "justifyWide", fn := fun _ => fun
  | [d1, d2] => { results := [.lit (.bool false)], args := [d1, d2] }
  | _ => none }
def JustifyWideWrongFalsely : Prop := justifyWideRow.holds Try.pinned (OpenSpec.ofChange justifyWideWrong)

/-- 'linotypelaw60.TableEven': WHATEVER THE INPUT: true; the input reads as it did. -/
def tableEvenSpec : ChangeSpec := { name := "tableEven", fn := fun _ => fun
  | [d1, d2, d3] => { results := [.lit (.bool true)], args := [d1, d2, d3] }
  | _ => none }
def tableEvenRow : OpenClaim := { program := "ytgkcobmbdpgceaa", sum := "ce78b622649fdd7b5bc51e09915897e6fb452195db91779885d818589693a2c8", func := "linotype/linotypelaw60.TableEven", spec := "tableEven", unfollowed := true, recurses := true, apart := false }
def TableEvenSaid : Prop := tableEvenRow.holds Try.pinned (OpenSpec.ofChange tableEvenSpec)

/-- ITS FALSE NEIGHBOUR: 'it returns false'. Refute it at one input. -/
def tableEvenWrong : ChangeSpec := { name := "tableEven", fn := fun _ => fun
  | [d1, d2, d3] => { results := [.lit (.bool false)], args := [d1, d2, d3] }
  | _ => none }
def TableEvenWrongFalsely : Prop := tableEvenRow.holds Try.pinned (OpenSpec.ofChange tableEvenWrong)

/- THE SECOND FORM. 'bulk': how many values and letters a reading holds, each counted each time it is reached (what is shared counts as often as it is met; a slice's spare places count too). A statement '..UptoSaid' is the law's where the arguments, and the package variables that the reading takes, are together of bulk at most 1048576: NARROWER than '..Said'. Prove '..Said' where nothing that the law and all that it calls make is longer than what came in: it says more and counts as full. Else prove '..UptoSaid'. A law counts once. -/
mutual
def uptoBulk {H : Type} : DataW H → Nat
  | .lit (.string bytes) => bytes.length + 1
  | .lit _ => 1
  | .nil => 1
  | .ptr d => uptoBulk d + 1
  | .slice elems spare => uptoBulkAll elems + uptoBulkAll spare + 1
  | .agg parts => uptoBulkAll parts + 1
  | .iface _ d => uptoBulk d + 1
  | .map entries => uptoBulkEntries entries + 1
  | .held _ => 1
def uptoBulkAll {H : Type} : List (DataW H) → Nat
  | [] => 0
  | d :: r => uptoBulk d + uptoBulkAll r
def uptoBulkEntries {H : Type} : List (Lit × DataW H) → Nat
  | [] => 0
  | x :: r => uptoBulkEntry x + uptoBulkEntries r
def uptoBulkEntry {H : Type} : Lit × DataW H → Nat
  | (.string bytes, d) => bytes.length + uptoBulk d + 1
  | (_, d) => uptoBulk d + 1
 end
def uptoSmall : (H : Type) → List (DataW H) → Bool := fun _ ds => decide (uptoBulkAll ds ≤ 1048576)
def OpenSpec.upto (s : _root_.Go.ChangeSpec) : _root_.Go.OpenSpec := { _root_.Go.OpenSpec.ofChange s with cond := some uptoSmall }

/-- 'linotypelaw21.MeasureTells', WHERE WHAT IT READS IS OF BULK AT MOST 1048576: true; the input reads as it did. -/
def measureTellsUptoRow : OpenClaim := { program := "ytgkcobmbdpgceaa", sum := "ce78b622649fdd7b5bc51e09915897e6fb452195db91779885d818589693a2c8", func := "linotype/linotypelaw21.MeasureTells", spec := "measureTells", unfollowed := true, recurses := true, apart := false, narrowed := true }
def MeasureTellsUptoSaid : Prop := measureTellsUptoRow.holds Try.pinned (OpenSpec.upto measureTellsSpec)

/-- 'linotypelaw21.MeasureHeads', WHERE WHAT IT READS IS OF BULK AT MOST 1048576: true; the input reads as it did. -/
def measureHeadsUptoRow : OpenClaim := { program := "ytgkcobmbdpgceaa", sum := "ce78b622649fdd7b5bc51e09915897e6fb452195db91779885d818589693a2c8", func := "linotype/linotypelaw21.MeasureHeads", spec := "measureHeads", unfollowed := true, recurses := true, apart := false, narrowed := true }
def MeasureHeadsUptoSaid : Prop := measureHeadsUptoRow.holds Try.pinned (OpenSpec.upto measureHeadsSpec)

/-- 'linotypelaw21.MeasureFits', WHERE WHAT IT READS IS OF BULK AT MOST 1048576: true; the input reads as it did. -/
def measureFitsUptoRow : OpenClaim := { program := "ytgkcobmbdpgceaa", sum := "ce78b622649fdd7b5bc51e09915897e6fb452195db91779885d818589693a2c8", func := "linotype/linotypelaw21.MeasureFits", spec := "measureFits", unfollowed := true, recurses := true, apart := false, narrowed := true }
def MeasureFitsUptoSaid : Prop := measureFitsUptoRow.holds Try.pinned (OpenSpec.upto measureFitsSpec)

/-- 'linotypelaw22.FitlineBreaks', WHERE WHAT IT READS IS OF BULK AT MOST 1048576: true; the input reads as it did. -/
def fitlineBreaksUptoRow : OpenClaim := { program := "ytgkcobmbdpgceaa", sum := "ce78b622649fdd7b5bc51e09915897e6fb452195db91779885d818589693a2c8", func := "linotype/linotypelaw22.FitlineBreaks", spec := "fitlineBreaks", unfollowed := true, recurses := true, apart := false, narrowed := true }
def FitlineBreaksUptoSaid : Prop := fitlineBreaksUptoRow.holds Try.pinned (OpenSpec.upto fitlineBreaksSpec)

/-- 'linotypelaw22.FitlineFits', WHERE WHAT IT READS IS OF BULK AT MOST 1048576: true; the input reads as it did. -/
def fitlineFitsUptoRow : OpenClaim := { program := "ytgkcobmbdpgceaa", sum := "ce78b622649fdd7b5bc51e09915897e6fb452195db91779885d818589693a2c8", func := "linotype/linotypelaw22.FitlineFits", spec := "fitlineFits", unfollowed := true, recurses := true, apart := false, narrowed := true }
def FitlineFitsUptoSaid : Prop := fitlineFitsUptoRow.holds Try.pinned (OpenSpec.upto fitlineFitsSpec)

/-- 'linotypelaw57.TabsKeep', WHERE WHAT IT READS IS OF BULK AT MOST 1048576: true; the input reads as it did. -/
def tabsKeepUptoRow : OpenClaim := { program := "ytgkcobmbdpgceaa", sum := "ce78b622649fdd7b5bc51e09915897e6fb452195db91779885d818589693a2c8", func := "linotype/linotypelaw57.TabsKeep", spec := "tabsKeep", unfollowed := true, recurses := true, apart := false, narrowed := true }
def TabsKeepUptoSaid : Prop := tabsKeepUptoRow.holds Try.pinned (OpenSpec.upto tabsKeepSpec)

/-- 'linotypelaw57.TabsExpand', WHERE WHAT IT READS IS OF BULK AT MOST 1048576: true; the input reads as it did. -/
def tabsExpandUptoRow : OpenClaim := { program := "ytgkcobmbdpgceaa", sum := "ce78b622649fdd7b5bc51e09915897e6fb452195db91779885d818589693a2c8", func := "linotype/linotypelaw57.TabsExpand", spec := "tabsExpand", unfollowed := true, recurses := true, apart := false, narrowed := true }
def TabsExpandUptoSaid : Prop := tabsExpandUptoRow.holds Try.pinned (OpenSpec.upto tabsExpandSpec)

/-- 'linotypelaw58.JustifyWide', WHERE WHAT IT READS IS OF BULK AT MOST 1048576: true; the input reads as it did. -/
def justifyWideUptoRow : OpenClaim := { program := "ytgkcobmbdpgceaa", sum := "ce78b622649fdd7b5bc51e09915897e6fb452195db91779885d818589693a2c8", func := "linotype/linotypelaw58.JustifyWide", spec := "justifyWide", unfollowed := true, recurses := true, apart := false, narrowed := true }
def JustifyWideUptoSaid : Prop := justifyWideUptoRow.holds Try.pinned (OpenSpec.upto justifyWideSpec)

/-- 'linotypelaw60.TableEven', WHERE WHAT IT READS IS OF BULK AT MOST 1048576: true; the input reads as it did. -/
def tableEvenUptoRow : OpenClaim := { program := "ytgkcobmbdpgceaa", sum := "ce78b622649fdd7b5bc51e09915897e6fb452195db91779885d818589693a2c8", func := "linotype/linotypelaw60.TableEven", spec := "tableEven", unfollowed := true, recurses := true, apart := false, narrowed := true }
def TableEvenUptoSaid : Prop := tableEvenUptoRow.holds Try.pinned (OpenSpec.upto tableEvenSpec)

end Rows
end Go.Proofs.Ytgkcobmbdpgceaa
