import Derived.Test.YthdphijabffpiaaDoorZ0
import Derived.Test.YthdphijabffpiaaDoorMg5
set_option maxRecDepth 100000
set_option linter.unusedVariables false
set_option linter.unusedSimpArgs false
set_option maxHeartbeats 400000
namespace Go.Proofs.YthdphijabffpiaaDoor
open Go.RowKit Go.ChangeShapes Go.WideShapes
def bu(Ls:List Ln):Nat->Nat
 | 0=>0
 | k+1=>bu Ls k+(Ls.getD k zl).1.length
theorem eQ(Ls:List Ln){a b:Nat}(h:a<=b):bu Ls a<=bu Ls b:=by
 induction h with
 | refl=>exact Nat.le_refl _
 | step h ih=>exact Nat.le_trans ih (Nat.le_add_right _ _)
end Go.Proofs.YthdphijabffpiaaDoor
