/- api.At and api.Within: the places of an error's faults. -/
import Derived.Test.YteinppjklhomnaaDoorErfA
namespace Go.Proofs.YteinppjklhomnaaDoor.F
open Go.RowKit

theorem cell_setCell (w : World) (a : Addr) (v u : Value) (h : w.cell? a = some u) : (w.setCell a v).cell? a = some v := World.cell?_setCell_same' w a v (by rw [h]; rfl)

end Go.Proofs.YteinppjklhomnaaDoor.F
