import Derived.Test.YtechjomepdahiaaDoorZ0
import Derived.Test.YtechjomepdahiaaDoorMg4
import Derived.Test.YtechjomepdahiaaDoorMg1
set_option maxRecDepth 100000
set_option linter.unusedVariables false
set_option linter.unusedSimpArgs false
set_option maxHeartbeats 400000
namespace Go.Proofs.YtechjomepdahiaaDoor
open Go.RowKit Go.ChangeShapes Go.WideShapes
def AlikeL(a b:List Ln)(k:Nat):Prop:=∀ j,j<k->a.getD j zl=b.getD j zl
theorem AlikeL.next{a b:List Ln}{k:Nat}(h:AlikeL a b k)(e:a.getD k zl=b.getD k zl):AlikeL a b (k+1):=by
 intro j hj
 by_cases e':j=k
 ·subst e';exact e
 ·exact h j (by omega)
end Go.Proofs.YtechjomepdahiaaDoor
