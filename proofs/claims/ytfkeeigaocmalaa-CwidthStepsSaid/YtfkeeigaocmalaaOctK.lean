/- Contracts of octet's functions and of the reference's. -/
import Derived.Test.YtfkeeigaocmalaaProg
import Derived.Test.YtfkeeigaocmalaaAid
import Derived.OpenShut
namespace Go.Proofs.Ytfkeeigaocmalaa
open Go.RowKit Go.ChangeShapes Go.WideShapes
def leadI (b : Int) : Int := if b ≤ 127 then 1 else if b < 194 then 0 else if b ≤ 223 then 2 else if b ≤ 239 then 3 else if b ≤ 244 then 4 else 0
theorem lead_cases (b : Int) : (b ≤ 127 ∧ leadI b = 1) ∨ (127 < b ∧ b < 194 ∧ leadI b = 0) ∨ (194 ≤ b ∧ b ≤ 223 ∧ leadI b = 2) ∨ (224 ≤ b ∧ b ≤ 239 ∧ leadI b = 3) ∨ (240 ≤ b ∧ b ≤ 244 ∧ leadI b = 4) ∨ (244 < b ∧ leadI b = 0) := by
  unfold leadI; omega
def tailB (b : Int) : Bool := decide (128 ≤ b) && decide (b ≤ 191)
theorem tailB_true {b : Int} : tailB b = true ↔ 128 ≤ b ∧ b ≤ 191 := by unfold tailB; simp
def bitsI (b : Int) : Int := if leadI b = 1 then b else if leadI b = 2 then b % 32 else if leadI b = 3 then b % 16 else if leadI b = 4 then b % 8 else 0
def lo2 (b : Int) : Int := if leadI b < 2 then 0 else if b = 224 then 160 else if b = 240 then 144 else 128
def hi2 (b : Int) : Int := if leadI b < 2 then 0 else if b = 244 then 143 else if b = 237 then 159 else 191
end Go.Proofs.Ytfkeeigaocmalaa
