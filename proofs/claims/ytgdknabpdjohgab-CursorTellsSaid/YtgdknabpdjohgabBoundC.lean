/- Contracts of bound's functions, of the reference's Side. -/
import Derived.Test.YtgdknabpdjohgabProg
import Derived.Test.YtgdknabpdjohgabAid
namespace Go.Proofs.Ytgdknabpdjohgab
open Go.RowKit Go.ChangeShapes Go.WideShapes
def sideI (n : Int) : Int := if n < 1 then 1 else if 1024 < n then 1024 else n
theorem sideI_cases (n : Int) : (n < 1 ∧ sideI n = 1) ∨ (1 ≤ n ∧ n ≤ 1024 ∧ sideI n = n) ∨ (1024 < n ∧ sideI n = 1024) := by unfold sideI; omega
theorem sideI_bd (n : Int) : 1 ≤ sideI n ∧ sideI n ≤ 1024 := by unfold sideI; omega
def heldI (n : Int) : Int := if n < 0 then 0 else if 1073741824 < n then 1073741824 else n
theorem heldI_cases (n : Int) : (n < 0 ∧ heldI n = 0) ∨ (0 ≤ n ∧ n ≤ 1073741824 ∧ heldI n = n) ∨ (1073741824 < n ∧ heldI n = 1073741824) := by unfold heldI; omega
theorem heldI_bd (n : Int) : 0 ≤ heldI n ∧ heldI n ≤ 1073741824 := by unfold heldI; omega
theorem bside_any (n : Int) (w : World) : Calls Try.prog 77 #[.int .i64 n] w fun e w' => e = .returned (.int .i64 (sideI n)) ∧ w = w' := by
  rcases sideI_cases n with ⟨h2, hs⟩ | ⟨h2, h3, hs⟩ | ⟨h2, hs⟩
  all_goals
    rw [hs]; clear hs
    go_enter Try.func77, Try.ntmps77
    go_wp2
    go_ret
    exact ⟨(ret_eq (by first | rfl | (simp <;> omega))), rfl⟩
theorem refside_any (n : Int) (w : World) : Calls Try.prog 50 #[.int .i64 n] w fun e w' => e = .returned (.int .i64 (sideI n)) ∧ w = w' := by
  rcases sideI_cases n with ⟨h2, hs⟩ | ⟨h2, h3, hs⟩ | ⟨h2, hs⟩
  all_goals
    rw [hs]; clear hs
    go_enter Try.func50, Try.ntmps50
    go_wp2
    go_ret
    exact ⟨(ret_eq (by first | rfl | (simp <;> omega))), rfl⟩
theorem bheld_any (n : Int) (w : World) : Calls Try.prog 78 #[.int .i64 n] w fun e w' => e = .returned (.int .i64 (heldI n)) ∧ w = w' := by
  rcases heldI_cases n with ⟨h2, hs⟩ | ⟨h2, h3, hs⟩ | ⟨h2, hs⟩
  all_goals
    rw [hs]; clear hs
    go_enter Try.func78, Try.ntmps78
    go_wp2
    go_ret
    exact ⟨(ret_eq (by first | rfl | (simp <;> omega))), rfl⟩
theorem mul_bd (a b m n : Int) (h0 : 0 ≤ a) (h1 : a ≤ m) (k0 : 0 ≤ b) (k1 : b ≤ n) : 0 ≤ a * b ∧ a * b ≤ m * n := by
  refine ⟨Int.mul_nonneg h0 k0, ?_⟩
  exact Int.mul_le_mul h1 k1 k0 (by omega)
theorem wrap_id (x : Int) (h0 : -9223372036854775808 ≤ x) (h1 : x ≤ 9223372036854775807) : wrap64 x = x := by unfold wrap64; omega
theorem most_any (a b : Int) (w : World) : Calls Try.prog 49 #[.int .i64 a, .int .i64 b] w fun e w' => e = .returned (.int .i64 (sideI a * sideI b * 16)) ∧ w = w' := by
  have ka := sideI_bd a
  have kb := sideI_bd b
  have km := mul_bd (sideI a) (sideI b) 1024 1024 (by omega) (by omega) (by omega) (by omega)
  go_enter Try.func49, Try.ntmps49
  go_wp2_with fail
  refine (bside_any a _).mono ?_
  rintro e w' ⟨rfl, rfl⟩
  go_wp2_with fail
  refine (bside_any b _).mono ?_
  rintro e w' ⟨rfl, rfl⟩
  go_wp2
  go_ret
  exact ⟨(ret_eq (by first | rfl | (simp <;> omega))), rfl⟩
def rowsI (n w : Int) : Int := if heldI n = 0 then 1 else if sideI w = 1 then heldI n else (2 * heldI n + sideI w - 2) / (sideI w - 1)
theorem rows_any48 (n a : Int) (w : World) : Calls Try.prog 51 #[.int .i64 n, .int .i64 a] w fun e w' => e = .returned (.int .i64 (rowsI n a)) ∧ w = w' := by
  have ka := sideI_bd a
  have kn := heldI_bd n
  have hr : rowsI n a = if heldI n = 0 then 1 else if sideI a = 1 then heldI n else (2 * heldI n + sideI a - 2) / (sideI a - 1) := rfl
  obtain ⟨x, hx⟩ : ∃ x, x = heldI n := ⟨_, rfl⟩
  obtain ⟨y, hy⟩ : ∃ y, y = sideI a := ⟨_, rfl⟩
  rw [← hx, ← hy] at hr
  rw [← hy] at ka
  rw [← hx] at kn
  have HX := Lib.hid hx
  have HY := Lib.hid hy
  clear hx hy
  by_cases h0 : x = 0
  · subst h0
    rw [hr]
    simp only [if_pos]
    clear hr
    go_enter Try.func51, Try.ntmps51
    go_wp2_with fail
    refine (bheld_any n _).mono ?_
    rintro e w' ⟨rfl, rfl⟩
    rw [← HX.out]
    go_wp2_with fail
    refine (bside_any a _).mono ?_
    rintro e w' ⟨rfl, rfl⟩
    rw [← HY.out]
    go_wp2
    go_ret
    exact ⟨(ret_eq (by first | rfl | (simp <;> omega))), rfl⟩
  · rw [if_neg h0] at hr
    by_cases h1 : y = 1
    · subst h1
      rw [if_pos rfl] at hr
      rw [hr]
      clear hr
      go_enter Try.func51, Try.ntmps51
      go_wp2_with fail
      refine (bheld_any n _).mono ?_
      rintro e w' ⟨rfl, rfl⟩
      rw [← HX.out]
      go_wp2_with fail
      refine (bside_any a _).mono ?_
      rintro e w' ⟨rfl, rfl⟩
      rw [← HY.out]
      go_wp2
      go_ret
      exact ⟨(ret_eq (by first | rfl | (simp <;> omega))), rfl⟩
    · rw [if_neg h1] at hr
      rw [hr]
      clear hr
      have hne : ((y - 1) == 0) = false := by simp; omega
      go_enter Try.func51, Try.ntmps51
      go_wp2_with fail
      refine (bheld_any n _).mono ?_
      rintro e w' ⟨rfl, rfl⟩
      rw [← HX.out]
      go_wp2_with fail
      refine (bside_any a _).mono ?_
      rintro e w' ⟨rfl, rfl⟩
      rw [← HY.out]
      go_wp2
      go_ret
      exact ⟨(ret_eq (by first | rfl | (simp <;> omega))), rfl⟩
theorem columns_any (n : Int) (w : World) : Calls Try.prog 52 #[.int .i64 n] w fun e w' => e = .returned (.int .i64 (2 * heldI n)) ∧ w = w' := by
  have kn := heldI_bd n
  go_enter Try.func52, Try.ntmps52
  go_wp2_with fail
  refine (bheld_any n _).mono ?_
  rintro e w' ⟨rfl, rfl⟩
  go_wp2
  go_ret
  exact ⟨(ret_eq (by first | rfl | (simp <;> omega))), rfl⟩
theorem works48_any (w : World) : Calls Try.prog 48 #[] w fun e w' => e = .returned (.bool true) ∧ w = w' := by
  go_enter Try.func48, Try.ntmps48
  go_wp2_with fail
  refine (most_any 80 24 _).mono ?_
  rintro e w' ⟨rfl, rfl⟩
  rw [show sideI 80 * sideI 24 * 16 = 30720 from by decide]
  go_wp2_with fail
  refine (rows_any48 3 3 _).mono ?_
  rintro e w' ⟨rfl, rfl⟩
  rw [show rowsI 3 3 = 3 from by decide]
  go_wp2_with fail
  refine (rows_any48 0 9 _).mono ?_
  rintro e w' ⟨rfl, rfl⟩
  rw [show rowsI 0 9 = 1 from by decide]
  go_wp2
  go_ret
  exact ⟨(ret_eq (by first | rfl | (simp <;> omega))), rfl⟩
end Go.Proofs.Ytgdknabpdjohgab
