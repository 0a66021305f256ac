/- errors.As at a target of type **api.Fault, and api.At, api.Within: by Go's own text of errors.As, walked (after the worked toy 'toyas'). -/
import Derived.Test.YtoeggiplcaegoaaGreatDoorErfC
namespace Go.Proofs.YtoeggiplcaegoaaGreatDoor.F
open Go.RowKit Go.Extern.Stop Go.Stop Go.Extern

/-- The variable errors.errorType. -/
def Handle (w : World) : Prop := w.cell? ⟨8, 0, none⟩ = some (.iface 270 (.agg #[.pointer (some ⟨9, 37, none⟩)]))

end Go.Proofs.YtoeggiplcaegoaaGreatDoor.F
