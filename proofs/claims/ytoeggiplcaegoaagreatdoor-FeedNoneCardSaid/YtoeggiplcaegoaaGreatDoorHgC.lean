/- Contracts of hangul.Syllable and Class. -/
import Derived.Test.YtoeggiplcaegoaaGreatDoorProg
import Derived.Test.YtoeggiplcaegoaaGreatDoorMg1
import Derived.OpenShut
namespace Go.Proofs.YtoeggiplcaegoaaGreatDoor
open Go.RowKit Go.ChangeShapes Go.WideShapes
def isSyl (r : Int) : Bool := decide (44032 ≤ r) && decide (r ≤ 55203)
theorem isSyl_cases (r : Int) : (r < 44032 ∧ isSyl r = false) ∨ (44032 ≤ r ∧ r ≤ 55203 ∧ isSyl r = true) ∨ (55203 < r ∧ isSyl r = false) := by unfold isSyl; simp; omega
theorem syllable_any (r : Int) (w : World) : Calls Tryz.prog 280 #[.int .i32 r] w fun e w' => e = .returned (.bool (isSyl r)) ∧ w = w' := by
  rcases isSyl_cases r with ⟨h2, hs⟩ | ⟨h2, h3, hs⟩ | ⟨h2, hs⟩
  all_goals
    rw [hs]; clear hs
    go_enter Tryz.func280, Tryz.ntmps280
    go_wp2
    go_ret
    exact ⟨ret_eq (by first | rfl | (simp; omega)), rfl⟩
def classI (r : Int) : Int :=
  if (4352 ≤ r ∧ r ≤ 4447) ∨ (43360 ≤ r ∧ r ≤ 43388) then 9
  else if (4448 ≤ r ∧ r ≤ 4519) ∨ (55216 ≤ r ∧ r ≤ 55238) then 10
  else if (4520 ≤ r ∧ r ≤ 4607) ∨ (55243 ≤ r ∧ r ≤ 55291) then 11
  else if r < 44032 ∨ 55203 < r then 0
  else if (r - 44032) % 28 = 0 then 12 else 13
theorem class_cases (r : Int) : (r < 4352) ∨ (4352 ≤ r ∧ r ≤ 4447) ∨ (4448 ≤ r ∧ r ≤ 4519) ∨ (4520 ≤ r ∧ r ≤ 4607) ∨ (4607 < r ∧ r < 43360) ∨ (43360 ≤ r ∧ r ≤ 43388) ∨ (43388 < r ∧ r < 44032) ∨ (44032 ≤ r ∧ r ≤ 55203 ∧ (r - 44032) % 28 = 0) ∨ (44032 ≤ r ∧ r ≤ 55203 ∧ 0 < (r - 44032) % 28) ∨ (55203 < r ∧ r < 55216) ∨ (55216 ≤ r ∧ r ≤ 55238) ∨ (55238 < r ∧ r < 55243) ∨ (55243 ≤ r ∧ r ≤ 55291) ∨ (55291 < r) := by omega
set_option maxHeartbeats 2000000 in
theorem class_any (r : Int) (w : World) : Calls Tryz.prog 240 #[.int .i32 r] w fun e w' => e = .returned (.int .i64 (classI r)) ∧ w = w' := by
  rcases class_cases r with h1 | ⟨h1, h2⟩ | ⟨h1, h2⟩ | ⟨h1, h2⟩ | ⟨h1, h2⟩ | ⟨h1, h2⟩ | ⟨h1, h2⟩ | ⟨h1, h2, h3⟩ | ⟨h1, h2, h3⟩ | ⟨h1, h2⟩ | ⟨h1, h2⟩ | ⟨h1, h2⟩ | ⟨h1, h2⟩ | h1
  all_goals
    first
    | rw [show classI r = 9 from by unfold classI; rw [if_pos (by omega)]]
    | rw [show classI r = 10 from by unfold classI; rw [if_neg (by omega), if_pos (by omega)]]
    | rw [show classI r = 11 from by unfold classI; rw [if_neg (by omega), if_neg (by omega), if_pos (by omega)]]
    | rw [show classI r = 0 from by unfold classI; rw [if_neg (by omega), if_neg (by omega), if_neg (by omega), if_pos (by omega)]]
    | rw [show classI r = 12 from by unfold classI; rw [if_neg (by omega), if_neg (by omega), if_neg (by omega), if_neg (by omega), if_pos (by omega)]]
    | rw [show classI r = 13 from by unfold classI; rw [if_neg (by omega), if_neg (by omega), if_neg (by omega), if_neg (by omega), if_neg (by omega)]]
    first
    | have HS := Lib.hid (show isSyl r = true from by unfold isSyl; simp; omega)
    | have HS := Lib.hid (show isSyl r = false from by unfold isSyl; simp; omega)
    try have h4 : ((r - 44032) % 28 == 0) = true := by simpa using h3
    try have h5 : ((r - 44032) % 28 == 0) = false := by simp; omega
    go_enter Tryz.func240, Tryz.ntmps240
    go_wp2_with (go_at_call 280; refine (syllable_any r _).mono ?_; rintro e w' ⟨rfl, rfl⟩; rw [HS.out])
    go_ret
    exact ⟨rfl, rfl⟩
end Go.Proofs.YtoeggiplcaegoaaGreatDoor
