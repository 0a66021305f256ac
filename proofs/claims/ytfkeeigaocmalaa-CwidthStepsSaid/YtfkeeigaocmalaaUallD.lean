/- Contracts of utfall: value, part. -/
import Derived.Test.YtfkeeigaocmalaaUallC
namespace Go.Proofs.Ytfkeeigaocmalaa
open Go.RowKit Go.ChangeShapes Go.WideShapes
def CapOk (v : Value) : Prop := ∀ ao n c, v = .slice ao n c → n ≤ c
def valF (xs : List Int) : Nat → Int
  | 0 => bitsI (xs.getD 0 0)
  | m + 1 => valF xs m * 64 + xs.getD (m + 1) 0 % 64
theorem bits_bd (x : Int) (x0 : 0 ≤ x) (x1 : x ≤ 255) : 0 ≤ bitsI x ∧ bitsI x ≤ 127 := by
  unfold bitsI leadI; omega
theorem valF_bd (xs : List Int) (h0 : 0 ≤ xs.getD 0 0 ∧ xs.getD 0 0 ≤ 255) (m : Nat) (hm : m ≤ 3) : 0 ≤ valF xs m ∧ valF xs m < 128 * 64 ^ m := by
  have := bits_bd _ h0.1 h0.2
  match m, hm with
  | 0, _ => show 0 ≤ bitsI _ ∧ bitsI _ < 128 * 64 ^ 0; omega
  | 1, _ => show 0 ≤ bitsI _ * 64 + _ % 64 ∧ bitsI _ * 64 + _ % 64 < 128 * 64 ^ 1; omega
  | 2, _ => show 0 ≤ (bitsI _ * 64 + _ % 64) * 64 + _ % 64 ∧ (bitsI _ * 64 + _ % 64) * 64 + _ % 64 < 128 * 64 ^ 2; omega
  | 3, _ => show 0 ≤ ((bitsI _ * 64 + _ % 64) * 64 + _ % 64) * 64 + _ % 64 ∧ ((bitsI _ * 64 + _ % 64) * 64 + _ % 64) * 64 + _ % 64 < 128 * 64 ^ 3; omega
end Go.Proofs.Ytfkeeigaocmalaa
