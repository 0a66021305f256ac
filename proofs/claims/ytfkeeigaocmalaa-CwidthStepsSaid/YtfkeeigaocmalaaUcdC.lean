/- Contracts of ucd: codes. -/
import Derived.Test.YtfkeeigaocmalaaUcdK
import Derived.Test.YtfkeeigaocmalaaTabW
import Derived.Test.YtfkeeigaocmalaaFrame
namespace Go.Proofs.Ytfkeeigaocmalaa
open Go.RowKit Go.ChangeShapes Go.WideShapes
def codeI (a : Int) (b : Bool) (c d : Int) : Int := if a < 0 ∨ 13 < a ∨ c < 0 ∨ 3 < c ∨ d < 0 ∨ 3 < d then -1 else a + 32 * c + 128 * d + (if b = true then 16 else 0)
theorem code_cases (a c d : Int) : (decide (a < 0) = true) ∨ (decide (a < 0) = false ∧ decide (13 < a) = true) ∨ (decide (a < 0) = false ∧ decide (13 < a) = false ∧ decide (c < 0) = true) ∨ (decide (a < 0) = false ∧ decide (13 < a) = false ∧ decide (c < 0) = false ∧ decide (3 < c) = true)
    ∨ (decide (a < 0) = false ∧ decide (13 < a) = false ∧ decide (c < 0) = false ∧ decide (3 < c) = false ∧ decide (d < 0) = true) ∨ (decide (a < 0) = false ∧ decide (13 < a) = false ∧ decide (c < 0) = false ∧ decide (3 < c) = false ∧ decide (d < 0) = false ∧ decide (3 < d) = true)
    ∨ (decide (a < 0) = false ∧ decide (13 < a) = false ∧ decide (c < 0) = false ∧ decide (3 < c) = false ∧ decide (d < 0) = false ∧ decide (3 < d) = false) := by
  simp only [decide_eq_true_eq, decide_eq_false_iff_not]
  omega
end Go.Proofs.Ytfkeeigaocmalaa
