/-
  No cell of these rows narrows 'for every input' (looked for: loops, veiled, ifaces, maps, wideKeys, modest, calm, conditions, laid).
  DERIVED. THE GIVEN ROWS OF THIS SEAT. 11 by the template 'for every input the law returns true; each argument reads behind the call as it read before'; 0 by the template 'total and deterministic' (their statements: YthagaoakeniikaaTotals.lean).
  GIVEN WITH THE SEED: the statements are not yours to turn. If you find one false, say at which input.
  Laid BY PROGRAM, IN A SANDBOX (cutbox-rows.mjs): the forced cells as the released guide's own fill.sh prints them over the translation 1cd633835111fd47… (all of the seat's roots in one cut). By AI agents, Wed Nov 11 2026. No macro, syntax, notation, axiom, sorry.
-/
import Derived.Test.YthagaoakeniikaaChecked
import GoSem.Claim
import GoSem.ClaimJoined
import GoSem.ClaimMapViews
import Derived.JoinedTies
import Derived.KernelRfl
namespace Go.Proofs.Ythagaoakeniikaa
/- THE CELL 'sum', in the pinned program and in every row, IS THE sha256 OF THE DUMP (.gsa) THAT YthagaoakeniikaaProg.lean LOADS. Nothing in Lean hashes anything: it is a label: what it is worth is what the hold of that sum in a sandbox is worth. -/
noncomputable def Try.pinned : Pinned := { name := "ythagaoakeniikaa", sum := "1cd633835111fd476cd15c4539644a862215624801f7c9261bfbbb2410e67add", checked := Try.checked }
namespace Rows
def none {H : Type} : Left H := { results := [], args := [] }

/-- 'linotypelaw09.GcbClasses': WHATEVER THE INPUT: true; the input reads as it did. -/
def gcbClassesSpec : ChangeSpec := { name := "gcbClasses", fn := fun _ => fun
  | [d] => { results := [.lit (.bool true)], args := [d] }
  | _ => none }
def gcbClassesRow : OpenClaim := { program := "ythagaoakeniikaa", sum := "1cd633835111fd476cd15c4539644a862215624801f7c9261bfbbb2410e67add", func := "linotype/linotypelaw09.GcbClasses", spec := "gcbClasses", unfollowed := true, recurses := true, apart := false }
def GcbClassesSaid : Prop := gcbClassesRow.holds Try.pinned (OpenSpec.ofChange gcbClassesSpec)

/-- ITS FALSE NEIGHBOUR: 'it returns false'. Refute it at one input. -/
def gcbClassesWrong : ChangeSpec := { name := "gcbClasses", fn := fun _ => fun
  | [d] => { results := [.lit (.bool false)], args := [d] }
  | _ => none }
def GcbClassesWrongFalsely : Prop := gcbClassesRow.holds Try.pinned (OpenSpec.ofChange gcbClassesWrong)

/-- 'linotypelaw10.PictTells': WHATEVER THE INPUT: true; the input reads as it did. -/
def pictTellsSpec : ChangeSpec := { name := "pictTells", fn := fun _ => fun
  | [d] => { results := [.lit (.bool true)], args := [d] }
  | _ => none }
def pictTellsRow : OpenClaim := { program := "ythagaoakeniikaa", sum := "1cd633835111fd476cd15c4539644a862215624801f7c9261bfbbb2410e67add", func := "linotype/linotypelaw10.PictTells", spec := "pictTells", unfollowed := true, recurses := true, apart := false }
def PictTellsSaid : Prop := pictTellsRow.holds Try.pinned (OpenSpec.ofChange pictTellsSpec)

/-- ITS FALSE NEIGHBOUR: 'it returns false'. Refute it at one input. -/
def pictTellsWrong : ChangeSpec := { name := "pictTells", fn := fun _ => fun
  | [d] => { results := [.lit (.bool false)], args := [d] }
  | _ => none }
def PictTellsWrongFalsely : Prop := pictTellsRow.holds Try.pinned (OpenSpec.ofChange pictTellsWrong)

/-- 'linotypelaw11.ConjTells': WHATEVER THE INPUT: true; the input reads as it did. -/
def conjTellsSpec : ChangeSpec := { name := "conjTells", fn := fun _ => fun
  | [d] => { results := [.lit (.bool true)], args := [d] }
  | _ => none }
def conjTellsRow : OpenClaim := { program := "ythagaoakeniikaa", sum := "1cd633835111fd476cd15c4539644a862215624801f7c9261bfbbb2410e67add", func := "linotype/linotypelaw11.ConjTells", spec := "conjTells", unfollowed := true, recurses := true, apart := false }
def ConjTellsSaid : Prop := conjTellsRow.holds Try.pinned (OpenSpec.ofChange conjTellsSpec)

/-- ITS FALSE NEIGHBOUR: 'it returns false'. Refute it at one input. -/
def conjTellsWrong : ChangeSpec := { name := "conjTells", fn := fun _ => fun
  | [d] => { results := [.lit (.bool false)], args := [d] }
  | _ => none }
def ConjTellsWrongFalsely : Prop := conjTellsRow.holds Try.pinned (OpenSpec.ofChange conjTellsWrong)

/-- 'linotypelaw12.EastTells': WHATEVER THE INPUT: true; the input reads as it did. -/
def eastTellsSpec : ChangeSpec := { name := "eastTells", fn := fun _ => fun
  | [d] => { results := [.lit (.bool true)], args := [d] }
  | _ => none }
def eastTellsRow : OpenClaim := { program := "ythagaoakeniikaa", sum := "1cd633835111fd476cd15c4539644a862215624801f7c9261bfbbb2410e67add", func := "linotype/linotypelaw12.EastTells", spec := "eastTells", unfollowed := true, recurses := true, apart := false }
def EastTellsSaid : Prop := eastTellsRow.holds Try.pinned (OpenSpec.ofChange eastTellsSpec)

/-- ITS FALSE NEIGHBOUR: 'it returns false'. Refute it at one input. -/
def eastTellsWrong : ChangeSpec := { name := "eastTells", fn := fun _ => fun
  | [d] => { results := [.lit (.bool false)], args := [d] }
  | _ => none }
def EastTellsWrongFalsely : Prop := eastTellsRow.holds Try.pinned (OpenSpec.ofChange eastTellsWrong)

/-- 'linotypelaw13.UcdTells': WHATEVER THE INPUT: true; the input reads as it did. -/
def ucdTellsSpec : ChangeSpec := { name := "ucdTells", fn := fun _ => fun
  | [d] => { results := [.lit (.bool true)], args := [d] }
  | _ => none }
def ucdTellsRow : OpenClaim := { program := "ythagaoakeniikaa", sum := "1cd633835111fd476cd15c4539644a862215624801f7c9261bfbbb2410e67add", func := "linotype/linotypelaw13.UcdTells", spec := "ucdTells", unfollowed := true, recurses := true, apart := false }
def UcdTellsSaid : Prop := ucdTellsRow.holds Try.pinned (OpenSpec.ofChange ucdTellsSpec)

/-- ITS FALSE NEIGHBOUR: 'it returns false'. Refute it at one input. -/
def ucdTellsWrong : ChangeSpec := { name := "ucdTells", fn := fun _ => fun
  | [d] => { results := [.lit (.bool false)], args := [d] }
  | _ => none }
def UcdTellsWrongFalsely : Prop := ucdTellsRow.holds Try.pinned (OpenSpec.ofChange ucdTellsWrong)

/-- 'linotypelaw13.UcdCodes': WHATEVER THE INPUT: true; the input reads as it did. -/
def ucdCodesSpec : ChangeSpec := { name := "ucdCodes", fn := fun _ => fun
  | [d1, d2] => { results := [.lit (.bool true)], args := [d1, d2] }
  | _ => none }
def ucdCodesRow : OpenClaim := { program := "ythagaoakeniikaa", sum := "1cd633835111fd476cd15c4539644a862215624801f7c9261bfbbb2410e67add", func := "linotype/linotypelaw13.UcdCodes", spec := "ucdCodes", unfollowed := true, recurses := true, apart := false }
def UcdCodesSaid : Prop := ucdCodesRow.holds Try.pinned (OpenSpec.ofChange ucdCodesSpec)

/-- ITS FALSE NEIGHBOUR: 'it returns false'. Refute it at one input. -/
def ucdCodesWrong : ChangeSpec := { name := "ucdCodes", fn := fun _ => fun
  | [d1, d2] => { results := [.lit (.bool false)], args := [d1, d2] }
  | _ => none }
def UcdCodesWrongFalsely : Prop := ucdCodesRow.holds Try.pinned (OpenSpec.ofChange ucdCodesWrong)

/-- 'linotypelaw18.BasewTells': WHATEVER THE INPUT: true; the input reads as it did. -/
def basewTellsSpec : ChangeSpec := { name := "basewTells", fn := fun _ => fun
  | [d1, d2] => { results := [.lit (.bool true)], args := [d1, d2] }
  | _ => none }
def basewTellsRow : OpenClaim := { program := "ythagaoakeniikaa", sum := "1cd633835111fd476cd15c4539644a862215624801f7c9261bfbbb2410e67add", func := "linotype/linotypelaw18.BasewTells", spec := "basewTells", unfollowed := true, recurses := true, apart := false }
def BasewTellsSaid : Prop := basewTellsRow.holds Try.pinned (OpenSpec.ofChange basewTellsSpec)

/-- ITS FALSE NEIGHBOUR: 'it returns false'. Refute it at one input. -/
def basewTellsWrong : ChangeSpec := { name := "basewTells", fn := fun _ => fun
  | [d1, d2] => { results := [.lit (.bool false)], args := [d1, d2] }
  | _ => none }
def BasewTellsWrongFalsely : Prop := basewTellsRow.holds Try.pinned (OpenSpec.ofChange basewTellsWrong)

/-- 'linotypelaw19.CwidthTells': WHATEVER THE INPUT: true; the input reads as it did. -/
def cwidthTellsSpec : ChangeSpec := { name := "cwidthTells", fn := fun _ => fun
  | [d] => { results := [.lit (.bool true)], args := [d] }
  | _ => none }
def cwidthTellsRow : OpenClaim := { program := "ythagaoakeniikaa", sum := "1cd633835111fd476cd15c4539644a862215624801f7c9261bfbbb2410e67add", func := "linotype/linotypelaw19.CwidthTells", spec := "cwidthTells", unfollowed := true, recurses := true, apart := false }
def CwidthTellsSaid : Prop := cwidthTellsRow.holds Try.pinned (OpenSpec.ofChange cwidthTellsSpec)

/-- ITS FALSE NEIGHBOUR: 'it returns false'. Refute it at one input. -/
def cwidthTellsWrong : ChangeSpec := { name := "cwidthTells", fn := fun _ => fun
  | [d] => { results := [.lit (.bool false)], args := [d] }
  | _ => none }
def CwidthTellsWrongFalsely : Prop := cwidthTellsRow.holds Try.pinned (OpenSpec.ofChange cwidthTellsWrong)

/-- 'linotypelaw19.CwidthSteps': WHATEVER THE INPUT: true; the input reads as it did. -/
def cwidthStepsSpec : ChangeSpec := { name := "cwidthSteps", fn := fun _ => fun
  | [d1, d2] => { results := [.lit (.bool true)], args := [d1, d2] }
  | _ => none }
def cwidthStepsRow : OpenClaim := { program := "ythagaoakeniikaa", sum := "1cd633835111fd476cd15c4539644a862215624801f7c9261bfbbb2410e67add", func := "linotype/linotypelaw19.CwidthSteps", spec := "cwidthSteps", unfollowed := true, recurses := true, apart := false }
def CwidthStepsSaid : Prop := cwidthStepsRow.holds Try.pinned (OpenSpec.ofChange cwidthStepsSpec)

/-- ITS FALSE NEIGHBOUR: 'it returns false'. Refute it at one input. -/
def cwidthStepsWrong : ChangeSpec := { name := "cwidthSteps", fn := fun _ => fun
  | [d1, d2] => { results := [.lit (.bool false)], args := [d1, d2] }
  | _ => none }
def CwidthStepsWrongFalsely : Prop := cwidthStepsRow.holds Try.pinned (OpenSpec.ofChange cwidthStepsWrong)

/-- 'linotypelaw20.ClusterKeeps': WHATEVER THE INPUT: true; the input reads as it did. -/
def clusterKeepsSpec : ChangeSpec := { name := "clusterKeeps", fn := fun _ => fun
  | [d] => { results := [.lit (.bool true)], args := [d] }
  | _ => none }
def clusterKeepsRow : OpenClaim := { program := "ythagaoakeniikaa", sum := "1cd633835111fd476cd15c4539644a862215624801f7c9261bfbbb2410e67add", func := "linotype/linotypelaw20.ClusterKeeps", spec := "clusterKeeps", apart := false }
def ClusterKeepsSaid : Prop := clusterKeepsRow.holds Try.pinned (OpenSpec.ofChange clusterKeepsSpec)

/-- ITS FALSE NEIGHBOUR: 'it returns false'. Refute it at one input. -/
def clusterKeepsWrong : ChangeSpec := { name := "clusterKeeps", fn := fun _ => fun
  | [d] => { results := [.lit (.bool false)], args := [d] }
  | _ => none }
def ClusterKeepsWrongFalsely : Prop := clusterKeepsRow.holds Try.pinned (OpenSpec.ofChange clusterKeepsWrong)

/-- 'linotypelaw20.ClusterSame': WHATEVER THE INPUT: true; the input reads as it did. -/
def clusterSameSpec : ChangeSpec := { name := "clusterSame", fn := fun _ => fun
  | [d1, d2, d3] => { results := [.lit (.bool true)], args := [d1, d2, d3] }
  | _ => none }
def clusterSameRow : OpenClaim := { program := "ythagaoakeniikaa", sum := "1cd633835111fd476cd15c4539644a862215624801f7c9261bfbbb2410e67add", func := "linotype/linotypelaw20.ClusterSame", spec := "clusterSame", apart := false }
def ClusterSameSaid : Prop := clusterSameRow.holds Try.pinned (OpenSpec.ofChange clusterSameSpec)

/-- ITS FALSE NEIGHBOUR: 'it returns false'. Refute it at one input. -/
def clusterSameWrong : ChangeSpec := { name := "clusterSame", fn := fun _ => fun
  | [d1, d2, d3] => { results := [.lit (.bool false)], args := [d1, d2, d3] }
  | _ => none }
def ClusterSameWrongFalsely : Prop := clusterSameRow.holds Try.pinned (OpenSpec.ofChange clusterSameWrong)

/- THE SECOND FORM. 'bulk': how many values and letters a reading holds, each counted each time it is reached (what is shared counts as often as it is met; a slice's spare places count too). A statement '..UptoSaid' is the law's where the arguments, and the package variables that the reading takes, are together of bulk at most 1048576: NARROWER than '..Said'. Prove '..Said' where nothing that the law and all that it calls make is longer than what came in: it says more and counts as full. Else prove '..UptoSaid'. A law counts once. -/
mutual
def uptoBulk {H : Type} : DataW H → Nat
  | .lit (.string bytes) => bytes.length + 1
  | .lit _ => 1
  | .nil => 1
  | .ptr d => uptoBulk d + 1
  | .slice elems spare => uptoBulkAll elems + uptoBulkAll spare + 1
  | .agg parts => uptoBulkAll parts + 1
  | .iface _ d => uptoBulk d + 1
  | .map entries => uptoBulkEntries entries + 1
  | .held _ => 1
def uptoBulkAll {H : Type} : List (DataW H) → Nat
  | [] => 0
  | d :: r => uptoBulk d + uptoBulkAll r
def uptoBulkEntries {H : Type} : List (Lit × DataW H) → Nat
  | [] => 0
  | x :: r => uptoBulkEntry x + uptoBulkEntries r
def uptoBulkEntry {H : Type} : Lit × DataW H → Nat
  | (.string bytes, d) => bytes.length + uptoBulk d + 1
  | (_, d) => uptoBulk d + 1
 end
def uptoSmall : (H : Type) → List (DataW H) → Bool := fun _ ds => decide (uptoBulkAll ds ≤ 1048576)
def OpenSpec.upto (s : _root_.Go.ChangeSpec) : _root_.Go.OpenSpec := { _root_.Go.OpenSpec.ofChange s with cond := some uptoSmall }

/-- 'linotypelaw09.GcbClasses', WHERE WHAT IT READS IS OF BULK AT MOST 1048576: true; the input reads as it did. -/
def gcbClassesUptoRow : OpenClaim := { program := "ythagaoakeniikaa", sum := "1cd633835111fd476cd15c4539644a862215624801f7c9261bfbbb2410e67add", func := "linotype/linotypelaw09.GcbClasses", spec := "gcbClasses", unfollowed := true, recurses := true, apart := false, narrowed := true }
def GcbClassesUptoSaid : Prop := gcbClassesUptoRow.holds Try.pinned (OpenSpec.upto gcbClassesSpec)

/-- 'linotypelaw10.PictTells', WHERE WHAT IT READS IS OF BULK AT MOST 1048576: true; the input reads as it did. -/
def pictTellsUptoRow : OpenClaim := { program := "ythagaoakeniikaa", sum := "1cd633835111fd476cd15c4539644a862215624801f7c9261bfbbb2410e67add", func := "linotype/linotypelaw10.PictTells", spec := "pictTells", unfollowed := true, recurses := true, apart := false, narrowed := true }
def PictTellsUptoSaid : Prop := pictTellsUptoRow.holds Try.pinned (OpenSpec.upto pictTellsSpec)

/-- 'linotypelaw11.ConjTells', WHERE WHAT IT READS IS OF BULK AT MOST 1048576: true; the input reads as it did. -/
def conjTellsUptoRow : OpenClaim := { program := "ythagaoakeniikaa", sum := "1cd633835111fd476cd15c4539644a862215624801f7c9261bfbbb2410e67add", func := "linotype/linotypelaw11.ConjTells", spec := "conjTells", unfollowed := true, recurses := true, apart := false, narrowed := true }
def ConjTellsUptoSaid : Prop := conjTellsUptoRow.holds Try.pinned (OpenSpec.upto conjTellsSpec)

/-- 'linotypelaw12.EastTells', WHERE WHAT IT READS IS OF BULK AT MOST 1048576: true; the input reads as it did. -/
def eastTellsUptoRow : OpenClaim := { program := "ythagaoakeniikaa", sum := "1cd633835111fd476cd15c4539644a862215624801f7c9261bfbbb2410e67add", func := "linotype/linotypelaw12.EastTells", spec := "eastTells", unfollowed := true, recurses := true, apart := false, narrowed := true }
def EastTellsUptoSaid : Prop := eastTellsUptoRow.holds Try.pinned (OpenSpec.upto eastTellsSpec)

/-- 'linotypelaw13.UcdTells', WHERE WHAT IT READS IS OF BULK AT MOST 1048576: true; the input reads as it did. -/
def ucdTellsUptoRow : OpenClaim := { program := "ythagaoakeniikaa", sum := "1cd633835111fd476cd15c4539644a862215624801f7c9261bfbbb2410e67add", func := "linotype/linotypelaw13.UcdTells", spec := "ucdTells", unfollowed := true, recurses := true, apart := false, narrowed := true }
def UcdTellsUptoSaid : Prop := ucdTellsUptoRow.holds Try.pinned (OpenSpec.upto ucdTellsSpec)

/-- 'linotypelaw13.UcdCodes', WHERE WHAT IT READS IS OF BULK AT MOST 1048576: true; the input reads as it did. -/
def ucdCodesUptoRow : OpenClaim := { program := "ythagaoakeniikaa", sum := "1cd633835111fd476cd15c4539644a862215624801f7c9261bfbbb2410e67add", func := "linotype/linotypelaw13.UcdCodes", spec := "ucdCodes", unfollowed := true, recurses := true, apart := false, narrowed := true }
def UcdCodesUptoSaid : Prop := ucdCodesUptoRow.holds Try.pinned (OpenSpec.upto ucdCodesSpec)

/-- 'linotypelaw18.BasewTells', WHERE WHAT IT READS IS OF BULK AT MOST 1048576: true; the input reads as it did. -/
def basewTellsUptoRow : OpenClaim := { program := "ythagaoakeniikaa", sum := "1cd633835111fd476cd15c4539644a862215624801f7c9261bfbbb2410e67add", func := "linotype/linotypelaw18.BasewTells", spec := "basewTells", unfollowed := true, recurses := true, apart := false, narrowed := true }
def BasewTellsUptoSaid : Prop := basewTellsUptoRow.holds Try.pinned (OpenSpec.upto basewTellsSpec)

/-- 'linotypelaw19.CwidthTells', WHERE WHAT IT READS IS OF BULK AT MOST 1048576: true; the input reads as it did. -/
def cwidthTellsUptoRow : OpenClaim := { program := "ythagaoakeniikaa", sum := "1cd633835111fd476cd15c4539644a862215624801f7c9261bfbbb2410e67add", func := "linotype/linotypelaw19.CwidthTells", spec := "cwidthTells", unfollowed := true, recurses := true, apart := false, narrowed := true }
def CwidthTellsUptoSaid : Prop := cwidthTellsUptoRow.holds Try.pinned (OpenSpec.upto cwidthTellsSpec)

/-- 'linotypelaw19.CwidthSteps', WHERE WHAT IT READS IS OF BULK AT MOST 1048576: true; the input reads as it did. -/
def cwidthStepsUptoRow : OpenClaim := { program := "ythagaoakeniikaa", sum := "1cd633835111fd476cd15c4539644a862215624801f7c9261bfbbb2410e67add", func := "linotype/linotypelaw19.CwidthSteps", spec := "cwidthSteps", unfollowed := true, recurses := true, apart := false, narrowed := true }
def CwidthStepsUptoSaid : Prop := cwidthStepsUptoRow.holds Try.pinned (OpenSpec.upto cwidthStepsSpec)

/-- 'linotypelaw20.ClusterKeeps', WHERE WHAT IT READS IS OF BULK AT MOST 1048576: true; the input reads as it did. -/
def clusterKeepsUptoRow : OpenClaim := { program := "ythagaoakeniikaa", sum := "1cd633835111fd476cd15c4539644a862215624801f7c9261bfbbb2410e67add", func := "linotype/linotypelaw20.ClusterKeeps", spec := "clusterKeeps", apart := false, narrowed := true }
def ClusterKeepsUptoSaid : Prop := clusterKeepsUptoRow.holds Try.pinned (OpenSpec.upto clusterKeepsSpec)

/-- 'linotypelaw20.ClusterSame', WHERE WHAT IT READS IS OF BULK AT MOST 1048576: true; the input reads as it did. -/
def clusterSameUptoRow : OpenClaim := { program := "ythagaoakeniikaa", sum := "1cd633835111fd476cd15c4539644a862215624801f7c9261bfbbb2410e67add", func := "linotype/linotypelaw20.ClusterSame", spec := "clusterSame", apart := false, narrowed := true }
def ClusterSameUptoSaid : Prop := clusterSameUptoRow.holds Try.pinned (OpenSpec.upto clusterSameSpec)

end Rows
end Go.Proofs.Ythagaoakeniikaa
