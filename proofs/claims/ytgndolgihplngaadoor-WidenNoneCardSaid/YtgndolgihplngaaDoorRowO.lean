/- Row.Copy, row.Of. -/
import Derived.Test.YtgndolgihplngaaDoorRowC
import Derived.Test.YtgndolgihplngaaDoorErrS
import Derived.Test.YtgndolgihplngaaDoorMg1
namespace Go.Proofs.YtgndolgihplngaaDoor
open Go.RowKit Go.ChangeShapes Go.WideShapes
section
variable (sa : Nat → Addr) (Y : Zone) (L : List Cl) (v : Value) (w : World)
end
end Go.Proofs.YtgndolgihplngaaDoor
