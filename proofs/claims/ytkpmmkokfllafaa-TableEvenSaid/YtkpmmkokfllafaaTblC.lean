/- The reference's At and Width (60). -/
import Derived.Test.YtkpmmkokfllafaaTblA
import Derived.Test.YtkpmmkokfllafaaMg9
namespace Go.Proofs.Ytkpmmkokfllafaa
open Go.RowKit Go.ChangeShapes Go.WideShapes
attribute [local go_sem] Oper.semAt_some
end Go.Proofs.Ytkpmmkokfllafaa
