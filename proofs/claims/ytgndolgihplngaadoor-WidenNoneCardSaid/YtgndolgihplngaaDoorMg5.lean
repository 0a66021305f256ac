/- Texts put together: GrdW, GrdZ. -/
import Derived.Test.YtgndolgihplngaaDoorGrdR
import Derived.Test.YtgndolgihplngaaDoorMg2
/- Which line is wrong (32): the reference's Wrong. -/
namespace Go.Proofs.YtgndolgihplngaaDoor
open Go.RowKit Go.ChangeShapes Go.WideShapes
end Go.Proofs.YtgndolgihplngaaDoor
/- linotyperef32.New: what it makes lies behind. -/
namespace Go.Proofs.YtgndolgihplngaaDoor
open Go.RowKit Go.ChangeShapes Go.WideShapes
end Go.Proofs.YtgndolgihplngaaDoor
