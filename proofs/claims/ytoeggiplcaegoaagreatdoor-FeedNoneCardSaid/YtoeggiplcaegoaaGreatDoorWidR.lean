/- The reference's Put of a cluster at once. -/
import Derived.Test.YtoeggiplcaegoaaGreatDoorPlcX
import Derived.Test.YtoeggiplcaegoaaGreatDoorMg10
import Derived.Test.YtoeggiplcaegoaaGreatDoorCwidA
import Derived.Test.YtoeggiplcaegoaaGreatDoorCellP
import Derived.Lib.MinMax
namespace Go.Proofs.YtoeggiplcaegoaaGreatDoor
open Go.RowKit Go.ChangeShapes Go.WideShapes
def numT (xs : List Int) (n : Nat) : List Int := (xs.take n).map repl
theorem numT_len (xs : List Int) (n : Nat) (h : n ≤ xs.length) : (numT xs n).length = n := by unfold numT; rw [List.length_map, List.length_take]; omega
end Go.Proofs.YtoeggiplcaegoaaGreatDoor
