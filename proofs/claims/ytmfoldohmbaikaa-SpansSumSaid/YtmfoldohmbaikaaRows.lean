/-
  No cell of these rows narrows 'for every input' (looked for: loops, veiled, ifaces, maps, wideKeys, modest, calm, conditions, laid).
  DERIVED. THE GIVEN ROWS OF THIS SEAT. 12 by the template 'for every input the law returns true; each argument reads behind the call as it read before'; 0 by the template 'total and deterministic' (their statements: YtmfoldohmbaikaaTotals.lean).
  GIVEN WITH THE SEED: the statements are not yours to turn. If you find one false, say at which input.
  Laid BY PROGRAM, IN A SANDBOX (cutbox-rows.mjs): the forced cells as the released guide's own fill.sh prints them over the translation e53c0eccda4d9c34… (all of the seat's roots in one cut). By AI agents, Wed Nov 11 2026. No macro, syntax, notation, axiom, sorry.
-/
import Derived.Test.YtmfoldohmbaikaaChecked
import GoSem.Claim
import GoSem.ClaimJoined
import GoSem.ClaimMapViews
import Derived.JoinedTies
import Derived.KernelRfl
namespace Go.Proofs.Ytmfoldohmbaikaa
/- THE CELL 'sum', in the pinned program and in every row, IS THE sha256 OF THE DUMP (.gsa) THAT YtmfoldohmbaikaaProg.lean LOADS. Nothing in Lean hashes anything: it is a label: what it is worth is what the hold of that sum in a sandbox is worth. -/
noncomputable def Try.pinned : Pinned := { name := "ytmfoldohmbaikaa", sum := "e53c0eccda4d9c348d28d36e9d86a505f41c5b58b7de1d8fe635b46217eadace", checked := Try.checked }
namespace Rows
def none {H : Type} : Left H := { results := [], args := [] }

/-- 'linotypelaw04.UtfallParts': WHATEVER THE INPUT: true; the input reads as it did. -/
def utfallPartsSpec : ChangeSpec := { name := "utfallParts", fn := fun _ => fun
  | [d] => { results := [.lit (.bool true)], args := [d] }
  | _ => none }
def utfallPartsRow : OpenClaim := { program := "ytmfoldohmbaikaa", sum := "e53c0eccda4d9c348d28d36e9d86a505f41c5b58b7de1d8fe635b46217eadace", func := "linotype/linotypelaw04.UtfallParts", spec := "utfallParts", recurses := true, apart := false }
def UtfallPartsSaid : Prop := utfallPartsRow.holds Try.pinned (OpenSpec.ofChange utfallPartsSpec)

/-- ITS FALSE NEIGHBOUR: 'it returns false'. Refute it at one input. -/
def utfallPartsWrong : ChangeSpec := { name := "utfallParts", fn := fun _ => fun
  | [d] => { results := [.lit (.bool false)], args := [d] }
  | _ => none }
def UtfallPartsWrongFalsely : Prop := utfallPartsRow.holds Try.pinned (OpenSpec.ofChange utfallPartsWrong)

/-- 'linotypelaw04.UtfallCovers': WHATEVER THE INPUT: true; the input reads as it did. -/
def utfallCoversSpec : ChangeSpec := { name := "utfallCovers", fn := fun _ => fun
  | [d] => { results := [.lit (.bool true)], args := [d] }
  | _ => none }
def utfallCoversRow : OpenClaim := { program := "ytmfoldohmbaikaa", sum := "e53c0eccda4d9c348d28d36e9d86a505f41c5b58b7de1d8fe635b46217eadace", func := "linotype/linotypelaw04.UtfallCovers", spec := "utfallCovers", apart := false }
def UtfallCoversSaid : Prop := utfallCoversRow.holds Try.pinned (OpenSpec.ofChange utfallCoversSpec)

/-- ITS FALSE NEIGHBOUR: 'it returns false'. Refute it at one input. -/
def utfallCoversWrong : ChangeSpec := { name := "utfallCovers", fn := fun _ => fun
  | [d] => { results := [.lit (.bool false)], args := [d] }
  | _ => none }
def UtfallCoversWrongFalsely : Prop := utfallCoversRow.holds Try.pinned (OpenSpec.ofChange utfallCoversWrong)

/-- 'linotypelaw04.UtfallDecodes': WHATEVER THE INPUT: true; the input reads as it did. -/
def utfallDecodesSpec : ChangeSpec := { name := "utfallDecodes", fn := fun _ => fun
  | [d] => { results := [.lit (.bool true)], args := [d] }
  | _ => none }
def utfallDecodesRow : OpenClaim := { program := "ytmfoldohmbaikaa", sum := "e53c0eccda4d9c348d28d36e9d86a505f41c5b58b7de1d8fe635b46217eadace", func := "linotype/linotypelaw04.UtfallDecodes", spec := "utfallDecodes", apart := false }
def UtfallDecodesSaid : Prop := utfallDecodesRow.holds Try.pinned (OpenSpec.ofChange utfallDecodesSpec)

/-- ITS FALSE NEIGHBOUR: 'it returns false'. Refute it at one input. -/
def utfallDecodesWrong : ChangeSpec := { name := "utfallDecodes", fn := fun _ => fun
  | [d] => { results := [.lit (.bool false)], args := [d] }
  | _ => none }
def UtfallDecodesWrongFalsely : Prop := utfallDecodesRow.holds Try.pinned (OpenSpec.ofChange utfallDecodesWrong)

/-- 'linotypelaw04.UtfallJoins': WHATEVER THE INPUT: true; the input reads as it did. -/
def utfallJoinsSpec : ChangeSpec := { name := "utfallJoins", fn := fun _ => fun
  | [d1, d2] => { results := [.lit (.bool true)], args := [d1, d2] }
  | _ => none }
def utfallJoinsRow : OpenClaim := { program := "ytmfoldohmbaikaa", sum := "e53c0eccda4d9c348d28d36e9d86a505f41c5b58b7de1d8fe635b46217eadace", func := "linotype/linotypelaw04.UtfallJoins", spec := "utfallJoins", apart := false }
def UtfallJoinsSaid : Prop := utfallJoinsRow.holds Try.pinned (OpenSpec.ofChange utfallJoinsSpec)

/-- ITS FALSE NEIGHBOUR: 'it returns false'. Refute it at one input. -/
def utfallJoinsWrong : ChangeSpec := { name := "utfallJoins", fn := fun _ => fun
  | [d1, d2] => { results := [.lit (.bool false)], args := [d1, d2] }
  | _ => none }
def UtfallJoinsWrongFalsely : Prop := utfallJoinsRow.holds Try.pinned (OpenSpec.ofChange utfallJoinsWrong)

/-- 'linotypelaw05.ChunksCut': WHATEVER THE INPUT: true; the input reads as it did. -/
def chunksCutSpec : ChangeSpec := { name := "chunksCut", fn := fun _ => fun
  | [d1, d2] => { results := [.lit (.bool true)], args := [d1, d2] }
  | _ => none }
def chunksCutRow : OpenClaim := { program := "ytmfoldohmbaikaa", sum := "e53c0eccda4d9c348d28d36e9d86a505f41c5b58b7de1d8fe635b46217eadace", func := "linotype/linotypelaw05.ChunksCut", spec := "chunksCut", recurses := true, apart := false }
def ChunksCutSaid : Prop := chunksCutRow.holds Try.pinned (OpenSpec.ofChange chunksCutSpec)

/-- ITS FALSE NEIGHBOUR: 'it returns false'. Refute it at one input. -/
def chunksCutWrong : ChangeSpec := { name := "chunksCut", fn := fun _ => fun
  | [d1, d2] => { results := [.lit (.bool false)], args := [d1, d2] }
  | _ => none }
def ChunksCutWrongFalsely : Prop := chunksCutRow.holds Try.pinned (OpenSpec.ofChange chunksCutWrong)

/-- 'linotypelaw05.ChunksRead': WHATEVER THE INPUT: true; the input reads as it did. -/
def chunksReadSpec : ChangeSpec := { name := "chunksRead", fn := fun _ => fun
  | [d1, d2] => { results := [.lit (.bool true)], args := [d1, d2] }
  | _ => none }
def chunksReadRow : OpenClaim := { program := "ytmfoldohmbaikaa", sum := "e53c0eccda4d9c348d28d36e9d86a505f41c5b58b7de1d8fe635b46217eadace", func := "linotype/linotypelaw05.ChunksRead", spec := "chunksRead", recurses := true, apart := false }
def ChunksReadSaid : Prop := chunksReadRow.holds Try.pinned (OpenSpec.ofChange chunksReadSpec)

/-- ITS FALSE NEIGHBOUR: 'it returns false'. Refute it at one input. -/
def chunksReadWrong : ChangeSpec := { name := "chunksRead", fn := fun _ => fun
  | [d1, d2] => { results := [.lit (.bool false)], args := [d1, d2] }
  | _ => none }
def ChunksReadWrongFalsely : Prop := chunksReadRow.holds Try.pinned (OpenSpec.ofChange chunksReadWrong)

/-- 'linotypelaw06.SpansTell': WHATEVER THE INPUT: true; the input reads as it did. -/
def spansTellSpec : ChangeSpec := { name := "spansTell", fn := fun _ => fun
  | [d1, d2] => { results := [.lit (.bool true)], args := [d1, d2] }
  | _ => none }
def spansTellRow : OpenClaim := { program := "ytmfoldohmbaikaa", sum := "e53c0eccda4d9c348d28d36e9d86a505f41c5b58b7de1d8fe635b46217eadace", func := "linotype/linotypelaw06.SpansTell", spec := "spansTell", unfollowed := true, recurses := true, apart := false }
def SpansTellSaid : Prop := spansTellRow.holds Try.pinned (OpenSpec.ofChange spansTellSpec)

/-- ITS FALSE NEIGHBOUR: 'it returns false'. Refute it at one input. -/
def spansTellWrong : ChangeSpec := { name := "spansTell", fn := fun _ => fun
  | [d1, d2] => { results := [.lit (.bool false)], args := [d1, d2] }
  | _ => none }
def SpansTellWrongFalsely : Prop := spansTellRow.holds Try.pinned (OpenSpec.ofChange spansTellWrong)

/-- 'linotypelaw06.SpansFewest': WHATEVER THE INPUT: true; the input reads as it did. -/
def spansFewestSpec : ChangeSpec := { name := "spansFewest", fn := fun _ => fun
  | [d1, d2] => { results := [.lit (.bool true)], args := [d1, d2] }
  | _ => none }
def spansFewestRow : OpenClaim := { program := "ytmfoldohmbaikaa", sum := "e53c0eccda4d9c348d28d36e9d86a505f41c5b58b7de1d8fe635b46217eadace", func := "linotype/linotypelaw06.SpansFewest", spec := "spansFewest", unfollowed := true, recurses := true, apart := false }
def SpansFewestSaid : Prop := spansFewestRow.holds Try.pinned (OpenSpec.ofChange spansFewestSpec)

/-- ITS FALSE NEIGHBOUR: 'it returns false'. Refute it at one input. -/
def spansFewestWrong : ChangeSpec := { name := "spansFewest", fn := fun _ => fun
  | [d1, d2] => { results := [.lit (.bool false)], args := [d1, d2] }
  | _ => none }
def SpansFewestWrongFalsely : Prop := spansFewestRow.holds Try.pinned (OpenSpec.ofChange spansFewestWrong)

/-- 'linotypelaw06.SpansSum': WHATEVER THE INPUT: true; the input reads as it did. -/
def spansSumSpec : ChangeSpec := { name := "spansSum", fn := fun _ => fun
  | [d1, d2] => { results := [.lit (.bool true)], args := [d1, d2] }
  | _ => none }
def spansSumRow : OpenClaim := { program := "ytmfoldohmbaikaa", sum := "e53c0eccda4d9c348d28d36e9d86a505f41c5b58b7de1d8fe635b46217eadace", func := "linotype/linotypelaw06.SpansSum", spec := "spansSum", unfollowed := true, recurses := true, apart := false }
def SpansSumSaid : Prop := spansSumRow.holds Try.pinned (OpenSpec.ofChange spansSumSpec)

/-- ITS FALSE NEIGHBOUR: 'it returns false'. Refute it at one input. -/
def spansSumWrong : ChangeSpec := { name := "spansSum", fn := fun _ => fun
  | [d1, d2] => { results := [.lit (.bool false)], args := [d1, d2] }
  | _ => none }
def SpansSumWrongFalsely : Prop := spansSumRow.holds Try.pinned (OpenSpec.ofChange spansSumWrong)

/-- 'linotypelaw15.SegCopies': WHATEVER THE INPUT: true; the input reads as it did. -/
def segCopiesSpec : ChangeSpec := { name := "segCopies", fn := fun _ => fun
  | [d1, d2] => { results := [.lit (.bool true)], args := [d1, d2] }
  | _ => none }
def segCopiesRow : OpenClaim := { program := "ytmfoldohmbaikaa", sum := "e53c0eccda4d9c348d28d36e9d86a505f41c5b58b7de1d8fe635b46217eadace", func := "linotype/linotypelaw15.SegCopies", spec := "segCopies", apart := false }
def SegCopiesSaid : Prop := segCopiesRow.holds Try.pinned (OpenSpec.ofChange segCopiesSpec)

/-- ITS FALSE NEIGHBOUR: 'it returns false'. Refute it at one input. -/
def segCopiesWrong : ChangeSpec := { name := "segCopies", fn := fun _ => fun
  | [d1, d2] => { results := [.lit (.bool false)], args := [d1, d2] }
  | _ => none }
def SegCopiesWrongFalsely : Prop := segCopiesRow.holds Try.pinned (OpenSpec.ofChange segCopiesWrong)

/-- 'linotypelaw20.ClusterKeeps': WHATEVER THE INPUT: true; the input reads as it did. -/
def clusterKeepsSpec : ChangeSpec := { name := "clusterKeeps", fn := fun _ => fun
  | [d] => { results := [.lit (.bool true)], args := [d] }
  | _ => none }
def clusterKeepsRow : OpenClaim := { program := "ytmfoldohmbaikaa", sum := "e53c0eccda4d9c348d28d36e9d86a505f41c5b58b7de1d8fe635b46217eadace", func := "linotype/linotypelaw20.ClusterKeeps", spec := "clusterKeeps", apart := false }
def ClusterKeepsSaid : Prop := clusterKeepsRow.holds Try.pinned (OpenSpec.ofChange clusterKeepsSpec)

/-- ITS FALSE NEIGHBOUR: 'it returns false'. Refute it at one input. -/
def clusterKeepsWrong : ChangeSpec := { name := "clusterKeeps", fn := fun _ => fun
  | [d] => { results := [.lit (.bool false)], args := [d] }
  | _ => none }
def ClusterKeepsWrongFalsely : Prop := clusterKeepsRow.holds Try.pinned (OpenSpec.ofChange clusterKeepsWrong)

/-- 'linotypelaw20.ClusterSame': WHATEVER THE INPUT: true; the input reads as it did. -/
def clusterSameSpec : ChangeSpec := { name := "clusterSame", fn := fun _ => fun
  | [d1, d2, d3] => { results := [.lit (.bool true)], args := [d1, d2, d3] }
  | _ => none }
def clusterSameRow : OpenClaim := { program := "ytmfoldohmbaikaa", sum := "e53c0eccda4d9c348d28d36e9d86a505f41c5b58b7de1d8fe635b46217eadace", func := "linotype/linotypelaw20.ClusterSame", spec := "clusterSame", apart := false }
def ClusterSameSaid : Prop := clusterSameRow.holds Try.pinned (OpenSpec.ofChange clusterSameSpec)

/-- ITS FALSE NEIGHBOUR: 'it returns false'. Refute it at one input. -/
def clusterSameWrong : ChangeSpec := { name := "clusterSame", fn := fun _ => fun
  | [d1, d2, d3] => { results := [.lit (.bool false)], args := [d1, d2, d3] }
  | _ => none }
def ClusterSameWrongFalsely : Prop := clusterSameRow.holds Try.pinned (OpenSpec.ofChange clusterSameWrong)

/- THE SECOND FORM. 'bulk': how many values and letters a reading holds, each counted each time it is reached (what is shared counts as often as it is met; a slice's spare places count too). A statement '..UptoSaid' is the law's where the arguments, and the package variables that the reading takes, are together of bulk at most 1048576: NARROWER than '..Said'. Prove '..Said' where nothing that the law and all that it calls make is longer than what came in: it says more and counts as full. Else prove '..UptoSaid'. A law counts once. -/
mutual
def uptoBulk {H : Type} : DataW H → Nat
  | .lit (.string bytes) => bytes.length + 1
  | .lit _ => 1
  | .nil => 1
  | .ptr d => uptoBulk d + 1
  | .slice elems spare => uptoBulkAll elems + uptoBulkAll spare + 1
  | .agg parts => uptoBulkAll parts + 1
  | .iface _ d => uptoBulk d + 1
  | .map entries => uptoBulkEntries entries + 1
  | .held _ => 1
def uptoBulkAll {H : Type} : List (DataW H) → Nat
  | [] => 0
  | d :: r => uptoBulk d + uptoBulkAll r
def uptoBulkEntries {H : Type} : List (Lit × DataW H) → Nat
  | [] => 0
  | x :: r => uptoBulkEntry x + uptoBulkEntries r
def uptoBulkEntry {H : Type} : Lit × DataW H → Nat
  | (.string bytes, d) => bytes.length + uptoBulk d + 1
  | (_, d) => uptoBulk d + 1
 end
def uptoSmall : (H : Type) → List (DataW H) → Bool := fun _ ds => decide (uptoBulkAll ds ≤ 1048576)
def OpenSpec.upto (s : _root_.Go.ChangeSpec) : _root_.Go.OpenSpec := { _root_.Go.OpenSpec.ofChange s with cond := some uptoSmall }

/-- 'linotypelaw04.UtfallParts', WHERE WHAT IT READS IS OF BULK AT MOST 1048576: true; the input reads as it did. -/
def utfallPartsUptoRow : OpenClaim := { program := "ytmfoldohmbaikaa", sum := "e53c0eccda4d9c348d28d36e9d86a505f41c5b58b7de1d8fe635b46217eadace", func := "linotype/linotypelaw04.UtfallParts", spec := "utfallParts", recurses := true, apart := false, narrowed := true }
def UtfallPartsUptoSaid : Prop := utfallPartsUptoRow.holds Try.pinned (OpenSpec.upto utfallPartsSpec)

/-- 'linotypelaw04.UtfallCovers', WHERE WHAT IT READS IS OF BULK AT MOST 1048576: true; the input reads as it did. -/
def utfallCoversUptoRow : OpenClaim := { program := "ytmfoldohmbaikaa", sum := "e53c0eccda4d9c348d28d36e9d86a505f41c5b58b7de1d8fe635b46217eadace", func := "linotype/linotypelaw04.UtfallCovers", spec := "utfallCovers", apart := false, narrowed := true }
def UtfallCoversUptoSaid : Prop := utfallCoversUptoRow.holds Try.pinned (OpenSpec.upto utfallCoversSpec)

/-- 'linotypelaw04.UtfallDecodes', WHERE WHAT IT READS IS OF BULK AT MOST 1048576: true; the input reads as it did. -/
def utfallDecodesUptoRow : OpenClaim := { program := "ytmfoldohmbaikaa", sum := "e53c0eccda4d9c348d28d36e9d86a505f41c5b58b7de1d8fe635b46217eadace", func := "linotype/linotypelaw04.UtfallDecodes", spec := "utfallDecodes", apart := false, narrowed := true }
def UtfallDecodesUptoSaid : Prop := utfallDecodesUptoRow.holds Try.pinned (OpenSpec.upto utfallDecodesSpec)

/-- 'linotypelaw04.UtfallJoins', WHERE WHAT IT READS IS OF BULK AT MOST 1048576: true; the input reads as it did. -/
def utfallJoinsUptoRow : OpenClaim := { program := "ytmfoldohmbaikaa", sum := "e53c0eccda4d9c348d28d36e9d86a505f41c5b58b7de1d8fe635b46217eadace", func := "linotype/linotypelaw04.UtfallJoins", spec := "utfallJoins", apart := false, narrowed := true }
def UtfallJoinsUptoSaid : Prop := utfallJoinsUptoRow.holds Try.pinned (OpenSpec.upto utfallJoinsSpec)

/-- 'linotypelaw05.ChunksCut', WHERE WHAT IT READS IS OF BULK AT MOST 1048576: true; the input reads as it did. -/
def chunksCutUptoRow : OpenClaim := { program := "ytmfoldohmbaikaa", sum := "e53c0eccda4d9c348d28d36e9d86a505f41c5b58b7de1d8fe635b46217eadace", func := "linotype/linotypelaw05.ChunksCut", spec := "chunksCut", recurses := true, apart := false, narrowed := true }
def ChunksCutUptoSaid : Prop := chunksCutUptoRow.holds Try.pinned (OpenSpec.upto chunksCutSpec)

/-- 'linotypelaw05.ChunksRead', WHERE WHAT IT READS IS OF BULK AT MOST 1048576: true; the input reads as it did. -/
def chunksReadUptoRow : OpenClaim := { program := "ytmfoldohmbaikaa", sum := "e53c0eccda4d9c348d28d36e9d86a505f41c5b58b7de1d8fe635b46217eadace", func := "linotype/linotypelaw05.ChunksRead", spec := "chunksRead", recurses := true, apart := false, narrowed := true }
def ChunksReadUptoSaid : Prop := chunksReadUptoRow.holds Try.pinned (OpenSpec.upto chunksReadSpec)

/-- 'linotypelaw06.SpansTell', WHERE WHAT IT READS IS OF BULK AT MOST 1048576: true; the input reads as it did. -/
def spansTellUptoRow : OpenClaim := { program := "ytmfoldohmbaikaa", sum := "e53c0eccda4d9c348d28d36e9d86a505f41c5b58b7de1d8fe635b46217eadace", func := "linotype/linotypelaw06.SpansTell", spec := "spansTell", unfollowed := true, recurses := true, apart := false, narrowed := true }
def SpansTellUptoSaid : Prop := spansTellUptoRow.holds Try.pinned (OpenSpec.upto spansTellSpec)

/-- 'linotypelaw06.SpansFewest', WHERE WHAT IT READS IS OF BULK AT MOST 1048576: true; the input reads as it did. -/
def spansFewestUptoRow : OpenClaim := { program := "ytmfoldohmbaikaa", sum := "e53c0eccda4d9c348d28d36e9d86a505f41c5b58b7de1d8fe635b46217eadace", func := "linotype/linotypelaw06.SpansFewest", spec := "spansFewest", unfollowed := true, recurses := true, apart := false, narrowed := true }
def SpansFewestUptoSaid : Prop := spansFewestUptoRow.holds Try.pinned (OpenSpec.upto spansFewestSpec)

/-- 'linotypelaw06.SpansSum', WHERE WHAT IT READS IS OF BULK AT MOST 1048576: true; the input reads as it did. -/
def spansSumUptoRow : OpenClaim := { program := "ytmfoldohmbaikaa", sum := "e53c0eccda4d9c348d28d36e9d86a505f41c5b58b7de1d8fe635b46217eadace", func := "linotype/linotypelaw06.SpansSum", spec := "spansSum", unfollowed := true, recurses := true, apart := false, narrowed := true }
def SpansSumUptoSaid : Prop := spansSumUptoRow.holds Try.pinned (OpenSpec.upto spansSumSpec)

/-- 'linotypelaw15.SegCopies', WHERE WHAT IT READS IS OF BULK AT MOST 1048576: true; the input reads as it did. -/
def segCopiesUptoRow : OpenClaim := { program := "ytmfoldohmbaikaa", sum := "e53c0eccda4d9c348d28d36e9d86a505f41c5b58b7de1d8fe635b46217eadace", func := "linotype/linotypelaw15.SegCopies", spec := "segCopies", apart := false, narrowed := true }
def SegCopiesUptoSaid : Prop := segCopiesUptoRow.holds Try.pinned (OpenSpec.upto segCopiesSpec)

/-- 'linotypelaw20.ClusterKeeps', WHERE WHAT IT READS IS OF BULK AT MOST 1048576: true; the input reads as it did. -/
def clusterKeepsUptoRow : OpenClaim := { program := "ytmfoldohmbaikaa", sum := "e53c0eccda4d9c348d28d36e9d86a505f41c5b58b7de1d8fe635b46217eadace", func := "linotype/linotypelaw20.ClusterKeeps", spec := "clusterKeeps", apart := false, narrowed := true }
def ClusterKeepsUptoSaid : Prop := clusterKeepsUptoRow.holds Try.pinned (OpenSpec.upto clusterKeepsSpec)

/-- 'linotypelaw20.ClusterSame', WHERE WHAT IT READS IS OF BULK AT MOST 1048576: true; the input reads as it did. -/
def clusterSameUptoRow : OpenClaim := { program := "ytmfoldohmbaikaa", sum := "e53c0eccda4d9c348d28d36e9d86a505f41c5b58b7de1d8fe635b46217eadace", func := "linotype/linotypelaw20.ClusterSame", spec := "clusterSame", apart := false, narrowed := true }
def ClusterSameUptoSaid : Prop := clusterSameUptoRow.holds Try.pinned (OpenSpec.upto clusterSameSpec)

end Rows
end Go.Proofs.Ytmfoldohmbaikaa
