/- The reference's Of of layer 19; cwidth.Of; works. -/
import Derived.Test.YtfkeeigaocmalaaCwidA
import Derived.Test.YtfkeeigaocmalaaKnown
namespace Go.Proofs.Ytfkeeigaocmalaa
open Go.RowKit Go.ChangeShapes Go.WideShapes
end Go.Proofs.Ytfkeeigaocmalaa
