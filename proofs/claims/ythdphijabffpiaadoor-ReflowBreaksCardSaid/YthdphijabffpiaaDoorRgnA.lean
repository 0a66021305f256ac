import Derived.Test.YthdphijabffpiaaDoorZ0
import Derived.Test.YthdphijabffpiaaDoorCellP
set_option maxRecDepth 100000
set_option linter.unusedVariables false
set_option linter.unusedSimpArgs false
set_option maxHeartbeats 400000
namespace Go.Proofs.YthdphijabffpiaaDoor
open Go.RowKit Go.ChangeShapes Go.WideShapes
def aI(L:List Cl):Nat->Nat
 | 0=>0
 | k+1=>if (L.getD k zc).1=0 then aI L k else k+1
def dy(L:List Cl):Nat:=aI L L.length
theorem cR(L:List Cl):∀ k,aI L k<=k
 |0=>Nat.le_refl _
 |k+1=>by
  unfold aI;have:=cR L k
  split <;> omega
end Go.Proofs.YthdphijabffpiaaDoor
