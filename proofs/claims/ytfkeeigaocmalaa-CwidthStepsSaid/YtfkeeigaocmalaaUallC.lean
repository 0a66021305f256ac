/- Contracts of utfall's parts. -/
import Derived.Test.YtfkeeigaocmalaaOctK
import Derived.Test.YtfkeeigaocmalaaAid
namespace Go.Proofs.Ytfkeeigaocmalaa
open Go.RowKit Go.ChangeShapes Go.WideShapes
def okB (xs : List Int) (m : Nat) : Bool := (m != 1 || (decide (lo2 (xs.getD 0 0) ≤ xs.getD m 0) && decide (xs.getD m 0 ≤ hi2 (xs.getD 0 0)))) && tailB (xs.getD m 0)
def goF (xs : List Int) (lead : Int) : Nat → Nat → Nat
  | 0, m => m
  | f + 1, m => if (m : Int) < lead ∧ m < xs.length ∧ okB xs m = true then goF xs lead f (m + 1) else m
def begN (xs : List Int) (lead : Int) : Nat := goF xs lead 4 1
theorem goF_stop (xs : List Int) (lead : Int) (f m : Nat) (h : ¬ ((m : Int) < lead ∧ m < xs.length ∧ okB xs m = true)) : goF xs lead f m = m := by
  cases f with
  | zero => rfl
  | succ f => unfold goF; rw [if_neg h]
theorem goF_on (xs : List Int) (lead : Int) (f m : Nat) (hf : 0 < f) (h : (m : Int) < lead ∧ m < xs.length ∧ okB xs m = true) : goF xs lead f m = goF xs lead (f - 1) (m + 1) := by
  cases f with
  | zero => omega
  | succ f => show goF xs lead (f + 1) m = _; rw [goF, if_pos h]; rfl
theorem goF_le (xs : List Int) (lead : Int) (f m : Nat) (h0 : m ≤ xs.length) (h1 : (m : Int) ≤ lead ∨ m ≤ 1) : m ≤ goF xs lead f m ∧ goF xs lead f m ≤ xs.length ∧ ((goF xs lead f m : Int) ≤ lead ∨ goF xs lead f m ≤ 1) := by
  induction f generalizing m with
  | zero => exact ⟨Nat.le_refl _, h0, h1⟩
  | succ f ih =>
    unfold goF
    split
    · rename_i h
      have := ih (m + 1) (by omega) (.inl (by omega))
      omega
    · exact ⟨Nat.le_refl _, h0, h1⟩
theorem begN_le (xs : List Int) (lead : Int) (h : 0 < xs.length) : 1 ≤ begN xs lead ∧ begN xs lead ≤ xs.length ∧ ((begN xs lead : Int) ≤ lead ∨ begN xs lead ≤ 1) := goF_le xs lead 4 1 h (.inr (by omega))
end Go.Proofs.Ytfkeeigaocmalaa
