import Derived.Test.YthdphijabffpiaaDoorZ0
import Derived.Test.YthdphijabffpiaaDoorCellP
set_option maxRecDepth 100000
set_option linter.unusedVariables false
set_option linter.unusedSimpArgs false
set_option maxHeartbeats 400000
namespace Go.Proofs.YthdphijabffpiaaDoor
open Go.RowKit Go.ChangeShapes Go.WideShapes
def aN(L:List Cl):Nat->Nat
 | 0=>0
 | k+1=>if (L.getD k zc).1=0 then aN L k else k+1
def fY(L:List Cl):Nat:=aN L L.length
theorem cu(L:List Cl):∀ k,aN L k<=k
 |0=>Nat.le_refl _
 |k+1=>by
  unfold aN;have:=cu L k
  split <;> omega
end Go.Proofs.YthdphijabffpiaaDoor
