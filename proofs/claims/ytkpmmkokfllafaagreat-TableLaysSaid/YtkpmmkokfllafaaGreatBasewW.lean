/- basew.Rune and Silent, the reference's; works of layer 18. -/
import Derived.Test.YtkpmmkokfllafaaGreatBasewC
namespace Go.Proofs.YtkpmmkokfllafaaGreat
open Go.RowKit Go.ChangeShapes Go.WideShapes
def silB (r : Int) : Bool := (decide (0 ≤ r) && decide (r ≤ 31)) || (decide (127 ≤ r) && decide (r ≤ 159))
def runeW (r : Int) : Int := basewI (gcbI r) (eastI r)
theorem inT {T : List (Int × Int)} (a b r : Int) (hm : (a, b) ∈ T) (h1 : a ≤ r) (h2 : r ≤ b) : inTab T r = true := List.any_eq_true.2 ⟨(a, b), hm, by simp [h1, h2]⟩
theorem control_three {r : Int} (h : inTab tControl r = true) : gcbI r = 3 := by
  obtain ⟨h1, h2, h3, h4⟩ := not_single (apart_not ap_cs h)
  have hl : listedI r = 3 := by unfold listedI; simp [h]
  unfold gcbI
  rw [if_neg h1, if_neg h2, if_neg h3, if_neg h4, if_neg (by omega), hl]
theorem silent_zero {r : Int} (h : silB r = true) : runeW r = 0 := by
  have h' : (0 ≤ r ∧ r ≤ 31) ∨ (127 ≤ r ∧ r ≤ 159) := by unfold silB at h; simpa using h
  have hg : gcbI r = 1 ∨ gcbI r = 2 ∨ gcbI r = 3 := by
    by_cases h13 : r = 13
    · subst h13; exact .inl (by decide +kernel)
    by_cases h10 : r = 10
    · subst h10; exact .inr (.inl (by decide +kernel))
    refine .inr (.inr (control_three ?_))
    by_cases e1 : r ≤ 9
    · exact inT 0 9 r (by decide) (by omega) e1
    by_cases e2 : r ≤ 12
    · exact inT 11 12 r (by decide) (by omega) e2
    by_cases e3 : r ≤ 31
    · exact inT 14 31 r (by decide) (by omega) e3
    · exact inT 127 159 r (by decide) (by omega) (by omega)
  unfold runeW basewI
  rw [if_pos (by omega)]
theorem sil_cases (r : Int) : (decide (0 ≤ r) = true ∧ decide (r ≤ 31) = true ∧ silB r = true) ∨ (decide (0 ≤ r) = true ∧ decide (r ≤ 31) = false ∧ decide (127 ≤ r) = true ∧ decide (r ≤ 159) = true ∧ silB r = true)
    ∨ (decide (0 ≤ r) = true ∧ decide (r ≤ 31) = false ∧ decide (127 ≤ r) = true ∧ decide (r ≤ 159) = false ∧ silB r = false) ∨ (decide (0 ≤ r) = true ∧ decide (r ≤ 31) = false ∧ decide (127 ≤ r) = false ∧ silB r = false)
    ∨ (decide (0 ≤ r) = false ∧ decide (127 ≤ r) = false ∧ silB r = false) := by
  unfold silB
  simp only [decide_eq_true_eq, decide_eq_false_iff_not, Bool.or_eq_true, Bool.and_eq_true, Bool.or_eq_false_iff, Bool.and_eq_false_iff]
  omega
set_option maxRecDepth 100000 in
theorem bsil_any (r : Int) (w : World) : Calls Tryz.prog 31 #[.int .i32 r] w (Gives w (.bool (silB r))) := by
  rcases sil_cases r with ⟨h1, h2, hs⟩ | ⟨h1, h2, h3, h4, hs⟩ | ⟨h1, h2, h3, h4, hs⟩ | ⟨h1, h2, h3, hs⟩ | ⟨h1, h2, hs⟩
  all_goals
    have HS := Lib.hid hs
    clear hs
    go_enter Tryz.func31, Tryz.ntmps31
    go_wp2
    go_ret
    exact ⟨ret_eq (by rw [HS.out]; first | rfl | simp), Below.refl _ _⟩
set_option maxRecDepth 100000 in
theorem rbsil_any (r : Int) (w : World) : Calls Tryz.prog 53 #[.int .i32 r] w (Gives w (.bool (silB r))) := by
  rcases sil_cases r with ⟨h1, h2, hs⟩ | ⟨h1, h2, h3, h4, hs⟩ | ⟨h1, h2, h3, h4, hs⟩ | ⟨h1, h2, h3, hs⟩ | ⟨h1, h2, hs⟩
  all_goals
    have HS := Lib.hid hs
    clear hs
    go_enter Tryz.func53, Tryz.ntmps53
    go_wp2
    go_ret
    exact ⟨ret_eq (by rw [HS.out]; first | rfl | simp), Below.refl _ _⟩
end Go.Proofs.YtkpmmkokfllafaaGreat
