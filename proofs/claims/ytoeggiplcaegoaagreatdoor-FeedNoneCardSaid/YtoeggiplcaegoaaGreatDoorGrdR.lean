/- The reference's lines (32): Same, New, Wrong; Side (31). -/
import Derived.Test.YtoeggiplcaegoaaGreatDoorMg6
import Derived.Test.YtoeggiplcaegoaaGreatDoorMg1
namespace Go.Proofs.YtoeggiplcaegoaaGreatDoor
open Go.RowKit Go.ChangeShapes Go.WideShapes
def AlikeL (a b : List Ln) (k : Nat) : Prop := ∀ j, j < k → a.getD j zl = b.getD j zl
theorem AlikeL.next {a b : List Ln} {k : Nat} (h : AlikeL a b k) (e : a.getD k zl = b.getD k zl) : AlikeL a b (k + 1) := by
  intro j hj
  by_cases e' : j = k
  · subst e'; exact e
  · exact h j (by omega)
end Go.Proofs.YtoeggiplcaegoaaGreatDoor
