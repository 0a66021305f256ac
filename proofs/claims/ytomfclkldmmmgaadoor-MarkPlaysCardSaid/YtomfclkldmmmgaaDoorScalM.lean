/- Scalar values and their forms: plain mathematics. -/
import Derived.Test.YtomfclkldmmmgaaDoorProg
import Derived.Test.YtomfclkldmmmgaaDoorAid
namespace Go.Proofs.YtomfclkldmmmgaaDoor
open Go.RowKit Go.ChangeShapes Go.WideShapes
/-- Is a number a scalar value? -/
def validB (r : Int) : Bool := decide (0 ≤ r) && decide (r ≤ 1114111) && (decide (r < 55296) || decide (57343 < r))
theorem validB_true {r : Int} : validB r = true ↔ (0 ≤ r ∧ r ≤ 1114111 ∧ (r < 55296 ∨ 57343 < r)) := by
  unfold validB; simp [and_assoc]
def sizeI (r : Int) : Int := if validB r = false then 0 else if r < 128 then 1 else if r < 2048 then 2 else if r < 65536 then 3 else 4

/-- The bytes of a scalar value. -/
def formL (r : Int) : List Int :=
  if validB r = false then [] else if r < 128 then [r] else if r < 2048 then [192 + r / 64, 128 + r % 64]
  else if r < 65536 then [224 + r / 4096, 128 + r / 64 % 64, 128 + r % 64] else [240 + r / 262144, 128 + r / 4096 % 64, 128 + r / 64 % 64, 128 + r % 64]
theorem formL_len (r : Int) : (formL r).length ≤ 4 := by
  unfold formL
  repeat' split
  all_goals simp

theorem Tryd.info5 : (Tryd.prog.info? 5).map (fun i => (i.zero, i.size, i.bytes)) = some (some (.int .u8 0), 1, 1) := by kernel_rfl

theorem formL_range (r : Int) : ∀ x ∈ formL r, 0 ≤ x ∧ x < 256 := by
  cases hv : validB r with
  | false => simp [formL, hv]
  | true =>
    have hr := validB_true.1 hv
    unfold formL
    rw [if_neg (by simp [hv])]
    intro x hx
    repeat' split at hx
    all_goals simp at hx
    all_goals omega
end Go.Proofs.YtomfclkldmmmgaaDoor
