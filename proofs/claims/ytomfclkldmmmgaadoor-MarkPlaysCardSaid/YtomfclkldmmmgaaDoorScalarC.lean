/- Contracts of scalar's functions and of the reference's: what each answers, at every argument. -/
import Derived.Test.YtomfclkldmmmgaaDoorScalM
namespace Go.Proofs.YtomfclkldmmmgaaDoor
open Go.RowKit

theorem valid_any (r : Int) (w : World) : Calls Tryd.prog 114 #[.int .i32 r] w fun e w' => e = .returned (.bool (validB r)) ∧ w = w' := by
  by_cases h0 : 0 ≤ r
  · by_cases h1 : r ≤ 1114111
    · by_cases h2 : r < 55296
      · have hv : validB r = true := validB_true.2 (by omega)
        rw [hv]
        go_enter Tryd.func114, Tryd.ntmps114
        go_wp2
        go_ret
        exact ⟨rfl, rfl⟩
      · by_cases h3 : 57343 < r
        · have hv : validB r = true := validB_true.2 (by omega)
          rw [hv]
          go_enter Tryd.func114, Tryd.ntmps114
          go_wp2
          go_ret
          exact ⟨rfl, rfl⟩
        · have hv : validB r = false := by unfold validB; simp; omega
          rw [hv]
          go_enter Tryd.func114, Tryd.ntmps114
          go_wp2
          go_ret
          exact ⟨rfl, rfl⟩
    · have hv : validB r = false := by unfold validB; simp; omega
      rw [hv]
      go_enter Tryd.func114, Tryd.ntmps114
      go_wp2
      go_ret
      exact ⟨rfl, rfl⟩
  · have hv : validB r = false := by unfold validB; simp; omega
    rw [hv]
    go_enter Tryd.func114, Tryd.ntmps114
    go_wp2
    go_ret
    exact ⟨rfl, rfl⟩
def Appended (B : Nat) (w : World) (n : Nat) (xs : List Int) (e : Ending) (w' : World) : Prop :=
  ∃ v', e = .returned v' ∧ w'.ownsRow B 5 1 v' n (xs.map (Value.int .u8)) ∧ Below B w w'

end Go.Proofs.YtomfclkldmmmgaaDoor
