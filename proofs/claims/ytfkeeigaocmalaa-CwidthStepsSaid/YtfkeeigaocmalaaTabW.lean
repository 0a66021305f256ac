/- works of layers 9 to 12; the reference's Is. -/
import Derived.Test.YtfkeeigaocmalaaTabM
import Derived.Test.YtfkeeigaocmalaaFrame
namespace Go.Proofs.Ytfkeeigaocmalaa
open Go.RowKit Go.ChangeShapes Go.WideShapes
end Go.Proofs.Ytfkeeigaocmalaa
