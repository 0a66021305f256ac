/- The eight errors' places, as the texts of faults (F) and those without them say it. -/
import Derived.Test.YtmclmhdlnlcafaaDoorErfL
import Derived.Test.YtmclmhdlnlcafaaDoorErrS
namespace Go.Proofs.YtmclmhdlnlcafaaDoor
open Go.RowKit Go.ChangeShapes Go.WideShapes
theorem glob_same : ∀ k, k < 8 → F.glob k = glob k := fun k hk =>
  match k, hk with
  | 0, _ => rfl
  | 1, _ => rfl
  | 2, _ => rfl
  | 3, _ => rfl
  | 4, _ => rfl
  | 5, _ => rfl
  | 6, _ => rfl
  | 7, _ => rfl
theorem sents_f {w : World} {sa : Nat → Addr} (h : F.Sents w sa) : Sents w sa where
  cell k hk := by rw [← glob_same k hk]; exact h.cell k hk
  row := h.row
  ne := h.ne
end Go.Proofs.YtmclmhdlnlcafaaDoor
