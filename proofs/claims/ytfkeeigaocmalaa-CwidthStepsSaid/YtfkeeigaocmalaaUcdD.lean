/- ucd.Prop: the property with a code; works of layer 13. -/
import Derived.Test.YtfkeeigaocmalaaUcdC
namespace Go.Proofs.Ytfkeeigaocmalaa
open Go.RowKit Go.ChangeShapes Go.WideShapes
def okN (n : Int) : Bool := decide (0 ≤ n) && decide (n < 512) && decide (n % 16 ≤ 13)
def unV (n : Int) : Value := if okN n = true then .agg #[.int .i64 (n % 16), .bool (n / 16 % 2 == 1), .int .i64 (n / 32 % 4), .int .i64 (n / 128)] else .agg #[.int .i64 0, .bool false, .int .i64 0, .int .i64 0]
theorem un_cases (n : Int) : (decide (n < 0) = true ∧ okN n = false) ∨ (decide (n < 0) = false ∧ decide (512 ≤ n) = true ∧ okN n = false) ∨ (0 ≤ n ∧ decide (n < 0) = false ∧ decide (512 ≤ n) = false ∧ decide (13 < n % 16) = true ∧ okN n = false) ∨ (0 ≤ n ∧ n < 512 ∧ decide (n < 0) = false ∧ decide (512 ≤ n) = false ∧ decide (13 < n % 16) = false ∧ okN n = true) := by
  unfold okN
  simp only [decide_eq_true_eq, decide_eq_false_iff_not, Bool.and_eq_true, Bool.and_eq_false_iff]
  omega
end Go.Proofs.Ytfkeeigaocmalaa
