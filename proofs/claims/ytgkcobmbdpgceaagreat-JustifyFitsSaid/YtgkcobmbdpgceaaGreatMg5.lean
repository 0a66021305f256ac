/- Texts put together: Known, UcdC, UcdD. -/
import Derived.Test.YtgkcobmbdpgceaaGreatUcdK
import Derived.Test.YtgkcobmbdpgceaaGreatMg2
import Derived.Test.YtgkcobmbdpgceaaGreatMg4
import Derived.Test.YtgkcobmbdpgceaaGreatMg1
/- The properties of a row of numbers. -/
namespace Go.Proofs.YtgkcobmbdpgceaaGreat
open Go.RowKit Go.ChangeShapes Go.WideShapes
def knownPr (r : Int) : Pr := ⟨gcbI r, inTab tPict r, conjO r, eastI r⟩
def knownL (xs : List Int) : List Pr := xs.map knownPr
theorem knownL_at {xs : List Int} {k : Nat} (h : k < xs.length) : (knownL xs).getD k Pr.none = knownPr (xs.getD k 0) := by
  have h' : k < (knownL xs).length := by simpa [knownL] using h
  simp [List.getD, List.getElem?_eq_getElem h, knownL]
theorem knownL_len (xs : List Int) : (knownL xs).length = xs.length := by simp [knownL]
theorem info_prop : (Tryz.prog.info? 66).map (fun i => (i.zero, i.size, i.bytes)) = some (some (.agg #[.int .i64 0, .bool false, .int .i64 0, .int .i64 0]), 4, 32) := by kernel_rfl
end Go.Proofs.YtgkcobmbdpgceaaGreat
/- Contracts of ucd: codes. -/
namespace Go.Proofs.YtgkcobmbdpgceaaGreat
open Go.RowKit Go.ChangeShapes Go.WideShapes
def codeI (a : Int) (b : Bool) (c d : Int) : Int := if a < 0 ∨ 13 < a ∨ c < 0 ∨ 3 < c ∨ d < 0 ∨ 3 < d then -1 else a + 32 * c + 128 * d + (if b = true then 16 else 0)
theorem code_cases (a c d : Int) : (decide (a < 0) = true) ∨ (decide (a < 0) = false ∧ decide (13 < a) = true) ∨ (decide (a < 0) = false ∧ decide (13 < a) = false ∧ decide (c < 0) = true) ∨ (decide (a < 0) = false ∧ decide (13 < a) = false ∧ decide (c < 0) = false ∧ decide (3 < c) = true)
    ∨ (decide (a < 0) = false ∧ decide (13 < a) = false ∧ decide (c < 0) = false ∧ decide (3 < c) = false ∧ decide (d < 0) = true) ∨ (decide (a < 0) = false ∧ decide (13 < a) = false ∧ decide (c < 0) = false ∧ decide (3 < c) = false ∧ decide (d < 0) = false ∧ decide (3 < d) = true)
    ∨ (decide (a < 0) = false ∧ decide (13 < a) = false ∧ decide (c < 0) = false ∧ decide (3 < c) = false ∧ decide (d < 0) = false ∧ decide (3 < d) = false) := by
  simp only [decide_eq_true_eq, decide_eq_false_iff_not]
  omega
end Go.Proofs.YtgkcobmbdpgceaaGreat
/- ucd.Prop: the property with a code; works of layer 13. -/
namespace Go.Proofs.YtgkcobmbdpgceaaGreat
open Go.RowKit Go.ChangeShapes Go.WideShapes
def okN (n : Int) : Bool := decide (0 ≤ n) && decide (n < 512) && decide (n % 16 ≤ 13)
def unV (n : Int) : Value := if okN n = true then .agg #[.int .i64 (n % 16), .bool (n / 16 % 2 == 1), .int .i64 (n / 32 % 4), .int .i64 (n / 128)] else .agg #[.int .i64 0, .bool false, .int .i64 0, .int .i64 0]
theorem un_cases (n : Int) : (decide (n < 0) = true ∧ okN n = false) ∨ (decide (n < 0) = false ∧ decide (512 ≤ n) = true ∧ okN n = false) ∨ (0 ≤ n ∧ decide (n < 0) = false ∧ decide (512 ≤ n) = false ∧ decide (13 < n % 16) = true ∧ okN n = false) ∨ (0 ≤ n ∧ n < 512 ∧ decide (n < 0) = false ∧ decide (512 ≤ n) = false ∧ decide (13 < n % 16) = false ∧ okN n = true) := by
  unfold okN
  simp only [decide_eq_true_eq, decide_eq_false_iff_not, Bool.and_eq_true, Bool.and_eq_false_iff]
  omega
end Go.Proofs.YtgkcobmbdpgceaaGreat
