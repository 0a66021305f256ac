/- Texts put together: GrdW, GrdZ. -/
import Derived.Test.YtoeggiplcaegoaaGreatDoorGrdR
import Derived.Test.YtoeggiplcaegoaaGreatDoorMg3
/- Which line is wrong (32): the reference's Wrong. -/
namespace Go.Proofs.YtoeggiplcaegoaaGreatDoor
open Go.RowKit Go.ChangeShapes Go.WideShapes
end Go.Proofs.YtoeggiplcaegoaaGreatDoor
/- linotyperef32.New: what it makes lies behind. -/
namespace Go.Proofs.YtoeggiplcaegoaaGreatDoor
open Go.RowKit Go.ChangeShapes Go.WideShapes
end Go.Proofs.YtoeggiplcaegoaaGreatDoor
