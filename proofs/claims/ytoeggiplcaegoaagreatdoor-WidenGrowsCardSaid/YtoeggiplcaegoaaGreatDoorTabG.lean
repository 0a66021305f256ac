/- What the program's tables tell of any number: its class, its use in a conjunct, its width in the east. -/
import Derived.Test.YtoeggiplcaegoaaGreatDoorMg2
import Derived.Test.YtoeggiplcaegoaaGreatDoorHgC
namespace Go.Proofs.YtoeggiplcaegoaaGreatDoor
open Go.RowKit Go.ChangeShapes Go.WideShapes
def listedI (r : Int) : Int := if inTab tControl r = true then 3 else if inTab tExtend r = true then 4 else if inTab tSpacing r = true then 8 else if inTab tPrepend r = true then 7 else 0
def gcbI (r : Int) : Int := if r = 13 then 1 else if r = 10 then 2 else if r = 8205 then 5 else if 127462 ≤ r ∧ r ≤ 127487 then 6 else if listedI r = 0 then classI r else listedI r
def conjO (r : Int) : Int := if inTab tCons r = true then 1 else if inTab tLink r = true then 2 else if inTab tJoin r = true then 3 else 0
def eastI (r : Int) : Int := if inTab tWide r = true then 1 else if inTab tFull r = true then 2 else if inTab tHalf r = true then 3 else 0
end Go.Proofs.YtoeggiplcaegoaaGreatDoor
