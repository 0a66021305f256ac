import Derived.Test.YthdphijabffpiaaDoorZ0
import Derived.Test.YthdphijabffpiaaDoorErfC
set_option maxRecDepth 100000
set_option linter.unusedVariables false
set_option linter.unusedSimpArgs false
set_option maxHeartbeats 400000
namespace Go.Proofs.YthdphijabffpiaaDoor.F
open Go.RowKit Go.Extern.Stop Go.Stop Go.Extern
def Handle(w:World):Prop:=w.cell? ⟨8,0,none⟩=some (.iface 148 (.agg #[.pointer (some ⟨9,36,none⟩)]))
end Go.Proofs.YthdphijabffpiaaDoor.F
