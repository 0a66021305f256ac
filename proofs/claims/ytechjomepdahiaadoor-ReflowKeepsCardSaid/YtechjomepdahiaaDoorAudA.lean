import Derived.Test.YtechjomepdahiaaDoorZ0
import Derived.Test.YtechjomepdahiaaDoorMg6
set_option maxRecDepth 100000
set_option linter.unusedVariables false
set_option linter.unusedSimpArgs false
set_option maxHeartbeats 400000
namespace Go.Proofs.YtechjomepdahiaaDoor
open Go.RowKit Go.ChangeShapes Go.WideShapes
structure Five (w:World) (sa:Nat->Addr):Prop where
 cell:∀ k,k ∈ [1,2,3,4,7]->w.cell? ⟨F.glob k,0,none⟩=some (.iface 186 (.pointer (some (sa k))))
theorem Five.below{w w':World}{sa:Nat->Addr}(h:Five w sa)(hb:Below w.heap.size w w'):Five w' sa where
 cell k hk:=by
  have:=h.cell k hk;exact (hb.cell (p:=⟨F.glob k,0,none⟩) (World.block_lt_of_cell? _ _ this)).trans this
theorem fy{w:World}{sa:Nat->Addr}(h:F.Sents w sa):Five w sa:=⟨fun k hk=>h.cell k (by simp at hk;omega)⟩
end Go.Proofs.YtechjomepdahiaaDoor
