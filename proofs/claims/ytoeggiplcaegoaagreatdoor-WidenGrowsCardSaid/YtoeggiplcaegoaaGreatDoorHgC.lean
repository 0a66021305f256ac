/- Contracts of hangul.Syllable and Class. -/
import Derived.Test.YtoeggiplcaegoaaGreatDoorProg
import Derived.Test.YtoeggiplcaegoaaGreatDoorMg1
import Derived.OpenShut
namespace Go.Proofs.YtoeggiplcaegoaaGreatDoor
open Go.RowKit Go.ChangeShapes Go.WideShapes
def isSyl (r : Int) : Bool := decide (44032 ≤ r) && decide (r ≤ 55203)
theorem isSyl_cases (r : Int) : (r < 44032 ∧ isSyl r = false) ∨ (44032 ≤ r ∧ r ≤ 55203 ∧ isSyl r = true) ∨ (55203 < r ∧ isSyl r = false) := by unfold isSyl; simp; omega
def spL (r : Int) : Int := if isSyl r = true then 4352 + (r - 44032) / 588 else 0
def spV (r : Int) : Int := if isSyl r = true then 4449 + (r - 44032) % 588 / 28 else 0
def spT (r : Int) : Int := if isSyl r = true ∧ (r - 44032) % 28 ≠ 0 then 4519 + (r - 44032) % 28 else 0
def classI (r : Int) : Int :=
  if (4352 ≤ r ∧ r ≤ 4447) ∨ (43360 ≤ r ∧ r ≤ 43388) then 9
  else if (4448 ≤ r ∧ r ≤ 4519) ∨ (55216 ≤ r ∧ r ≤ 55238) then 10
  else if (4520 ≤ r ∧ r ≤ 4607) ∨ (55243 ≤ r ∧ r ≤ 55291) then 11
  else if r < 44032 ∨ 55203 < r then 0
  else if (r - 44032) % 28 = 0 then 12 else 13
theorem class_cases (r : Int) : (r < 4352) ∨ (4352 ≤ r ∧ r ≤ 4447) ∨ (4448 ≤ r ∧ r ≤ 4519) ∨ (4520 ≤ r ∧ r ≤ 4607) ∨ (4607 < r ∧ r < 43360) ∨ (43360 ≤ r ∧ r ≤ 43388) ∨ (43388 < r ∧ r < 44032) ∨ (44032 ≤ r ∧ r ≤ 55203 ∧ (r - 44032) % 28 = 0) ∨ (44032 ≤ r ∧ r ≤ 55203 ∧ 0 < (r - 44032) % 28) ∨ (55203 < r ∧ r < 55216) ∨ (55216 ≤ r ∧ r ≤ 55238) ∨ (55238 < r ∧ r < 55243) ∨ (55243 ≤ r ∧ r ≤ 55291) ∨ (55291 < r) := by omega
end Go.Proofs.YtoeggiplcaegoaaGreatDoor
