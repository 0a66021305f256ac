/- How wide a row of numbers with properties is; the reference's Row. -/
import Derived.Test.YtoeggiplcaegoaaGreatDoorMg5
import Derived.Test.YtoeggiplcaegoaaGreatDoorMg1
namespace Go.Proofs.YtoeggiplcaegoaaGreatDoor
open Go.RowKit Go.ChangeShapes Go.WideShapes
def picAt (ps : List Pr) : Nat → Bool
  | 0 => false
  | k + 1 => (ps.getD k Pr.none).pc
def condW (xs : List Int) (ps : List Pr) (i : Nat) : Bool := widB (decide (0 < i)) (picAt ps i) (xs.getD i 0) (ps.getD i Pr.none).br (ps.getD i Pr.none).pc (ps.getD i Pr.none).ea
def anyW (xs : List Int) (ps : List Pr) : Nat → Bool
  | 0 => false
  | k + 1 => anyW xs ps k || condW xs ps k
end Go.Proofs.YtoeggiplcaegoaaGreatDoor
