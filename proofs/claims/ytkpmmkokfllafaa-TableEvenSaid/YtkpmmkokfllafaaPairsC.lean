/- Contracts of pairs' functions and of the reference's. -/
import Derived.Test.YtkpmmkokfllafaaProg
import Derived.Test.YtkpmmkokfllafaaMg1
import Derived.OpenShut
namespace Go.Proofs.Ytkpmmkokfllafaa
open Go.RowKit Go.ChangeShapes Go.WideShapes
def clI (n : Int) : Int := if n < 0 ∨ 13 < n then 0 else n
theorem clI_bd (n : Int) : 0 ≤ clI n ∧ clI n ≤ 13 := by unfold clI; omega
theorem class14_any (n : Int) (w : World) : Calls Try.prog 68 #[.int .i64 n] w fun e w' => e = .returned (.int .i64 (clI n)) ∧ w = w' := by
  have hv : (n < 0 ∧ clI n = 0) ∨ (0 ≤ n ∧ n ≤ 13 ∧ clI n = n) ∨ (13 < n ∧ clI n = 0) := by unfold clI; omega
  rcases hv with ⟨h2, hs⟩ | ⟨h2, h3, hs⟩ | ⟨h2, hs⟩
  all_goals
    rw [hs]; clear hs
    go_enter Try.func68, Try.ntmps68
    go_wp2
    go_ret
    exact ⟨(ret_eq (by first | rfl | (simp <;> omega))), rfl⟩
def brB (n : Int) : Bool := decide (1 ≤ n) && decide (n ≤ 3)
theorem brB_cases (n : Int) : (n = 1 ∧ brB n = true) ∨ (n = 2 ∧ brB n = true) ∨ (n = 3 ∧ brB n = true) ∨ (n ≠ 1 ∧ n ≠ 2 ∧ n ≠ 3 ∧ brB n = false) := by unfold brB; simp; omega
theorem breaks_any (n : Int) (w : World) : Calls Try.prog 69 #[.int .i64 n] w fun e w' => e = .returned (.bool (brB n)) ∧ w = w' := by
  rcases brB_cases n with ⟨rfl, hs⟩ | ⟨rfl, hs⟩ | ⟨rfl, hs⟩ | ⟨h1, h2, h3, hs⟩
  all_goals
    rw [hs]; clear hs
    go_enter Try.func69, Try.ntmps69
    go_wp2
    go_ret
    exact ⟨(ret_eq (by first | rfl | (simp <;> omega))), rfl⟩
def sylB (a b : Int) : Bool :=
  if a = 9 then decide (b = 9 ∨ b = 10 ∨ b = 12 ∨ b = 13)
  else if a = 12 ∨ a = 10 then decide (b = 10 ∨ b = 11)
  else if a = 13 ∨ a = 11 then decide (b = 11) else false
theorem sylB_cases (a b : Int) : (a = 9 ∧ b = 9 ∧ sylB a b = true) ∨ (a = 9 ∧ b = 10 ∧ sylB a b = true) ∨ (a = 9 ∧ b = 12 ∧ sylB a b = true) ∨ (a = 9 ∧ b = 13 ∧ sylB a b = true) ∨ (a = 9 ∧ b ≠ 9 ∧ b ≠ 10 ∧ b ≠ 12 ∧ b ≠ 13 ∧ sylB a b = false)
    ∨ ((a = 12 ∨ a = 10) ∧ b = 10 ∧ sylB a b = true) ∨ ((a = 12 ∨ a = 10) ∧ b = 11 ∧ sylB a b = true) ∨ ((a = 12 ∨ a = 10) ∧ b ≠ 10 ∧ b ≠ 11 ∧ sylB a b = false)
    ∨ ((a = 13 ∨ a = 11) ∧ b = 11 ∧ sylB a b = true) ∨ ((a = 13 ∨ a = 11) ∧ b ≠ 11 ∧ sylB a b = false)
    ∨ (a ≠ 9 ∧ a ≠ 10 ∧ a ≠ 11 ∧ a ≠ 12 ∧ a ≠ 13 ∧ sylB a b = false) := by
  unfold sylB
  by_cases h9 : a = 9
  · subst h9; simp; omega
  · by_cases h12 : a = 12 ∨ a = 10
    · simp [h9, h12]; omega
    · by_cases h13 : a = 13 ∨ a = 11
      · simp [h9, h12, h13]; omega
      · simp [h9, h12, h13]; omega
theorem syl_any (a b : Int) (w : World) : Calls Try.prog 70 #[.int .i64 a, .int .i64 b] w fun e w' => e = .returned (.bool (sylB a b)) ∧ w = w' := by
  rcases sylB_cases a b with ⟨rfl, rfl, hs⟩ | ⟨rfl, rfl, hs⟩ | ⟨rfl, rfl, hs⟩ | ⟨rfl, rfl, hs⟩ | ⟨rfl, h1, h2, h3, h4, hs⟩ | ⟨rfl | rfl, rfl, hs⟩ | ⟨rfl | rfl, rfl, hs⟩ | ⟨rfl | rfl, h1, h2, hs⟩ | ⟨rfl | rfl, rfl, hs⟩ | ⟨rfl | rfl, h1, hs⟩ | ⟨h1, h2, h3, h4, h5, hs⟩
  all_goals
    rw [hs]; clear hs
    go_enter Try.func70, Try.ntmps70
    go_wp2
    go_ret
    exact ⟨(ret_eq (by first | rfl | (simp <;> omega))), rfl⟩
/-- Whether two classes go together. -/
def pairI (a b : Int) : Int :=
  if a = 1 ∧ b = 2 then 1 else if brB a = true ∨ brB b = true then 0 else if sylB a b = true then 1
  else if b = 4 ∨ b = 5 ∨ b = 8 ∨ a = 7 then 1 else if (b = 0 ∧ (a = 5 ∨ a = 4)) ∨ (a = 6 ∧ b = 6) then 2 else 0
def joinI (a b : Int) : Int := pairI (clI a) (clI b)
theorem pairI_cases (a b : Int) : (a = 1 ∧ b = 2 ∧ pairI a b = 1) ∨ (¬ (a = 1 ∧ b = 2) ∧ brB a = true ∧ pairI a b = 0) ∨ (a ≠ 1 ∧ brB a = false ∧ brB b = true ∧ pairI a b = 0)
    ∨ (a ≠ 1 ∧ brB a = false ∧ brB b = false ∧ sylB a b = true ∧ pairI a b = 1) ∨ (a ≠ 1 ∧ brB a = false ∧ brB b = false ∧ sylB a b = false ∧ pairI a b = (if b = 4 ∨ b = 5 ∨ b = 8 ∨ a = 7 then 1 else if (b = 0 ∧ (a = 5 ∨ a = 4)) ∨ (a = 6 ∧ b = 6) then 2 else 0)) := by
  unfold pairI
  by_cases h : a = 1 ∧ b = 2
  · simp [h]
  · have h1 : brB a = false → a ≠ 1 := by intro hb he; subst he; simp [brB] at hb
    rw [if_neg h]
    cases ha : brB a with
    | true => simp [h]
    | false =>
      have h1 := h1 ha
      cases hb : brB b with
      | true => simp [h1]
      | false =>
        cases hs : sylB a b with
        | true => simp [h1]
        | false => simp [h1]
end Go.Proofs.Ytkpmmkokfllafaa
