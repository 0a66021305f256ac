/- Texts put together: CursorD, ErfA, ErfB, ErfL, ErfS. -/
import Derived.Test.YtgndolgihplngaaDoorCursorC
import Derived.Test.YtgndolgihplngaaDoorErfC
import Derived.Test.YtgndolgihplngaaDoorRows
import Derived.LaidMore
import Derived.Test.YtgndolgihplngaaDoorErrS
/- Contracts of cursor.Right, Move, After and of the reference's. -/
namespace Go.Proofs.YtgndolgihplngaaDoor
open Go.RowKit Go.ChangeShapes Go.WideShapes
end Go.Proofs.YtgndolgihplngaaDoor
/- errors.As at a target of type **api.Fault, and api.At, api.Within: by Go's own text of errors.As, walked (after the worked toy 'toyas'). -/
namespace Go.Proofs.YtgndolgihplngaaDoor.F
open Go.RowKit Go.Extern.Stop Go.Stop Go.Extern

end Go.Proofs.YtgndolgihplngaaDoor.F
/- api.At and api.Within: the places of an error's faults. -/
namespace Go.Proofs.YtgndolgihplngaaDoor.F
open Go.RowKit

end Go.Proofs.YtgndolgihplngaaDoor.F
/- From what a row lists to where it lies. -/
namespace Go.Proofs.YtgndolgihplngaaDoor.F
open Go.RowKit Go.ChangeShapes

end Go.Proofs.YtgndolgihplngaaDoor.F
/- The eight errors' places, as the texts of faults (F) and those without them say it. -/
namespace Go.Proofs.YtgndolgihplngaaDoor
open Go.RowKit Go.ChangeShapes Go.WideShapes
end Go.Proofs.YtgndolgihplngaaDoor
