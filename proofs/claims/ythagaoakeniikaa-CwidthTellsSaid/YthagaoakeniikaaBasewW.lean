/- basew.Rune and Silent, the reference's; works of layer 18. -/
import Derived.Test.YthagaoakeniikaaBasewC
namespace Go.Proofs.Ythagaoakeniikaa
open Go.RowKit Go.ChangeShapes Go.WideShapes
def silB (r : Int) : Bool := (decide (0 ≤ r) && decide (r ≤ 31)) || (decide (127 ≤ r) && decide (r ≤ 159))
def runeW (r : Int) : Int := basewI (gcbI r) (eastI r)
theorem inT {T : List (Int × Int)} (a b r : Int) (hm : (a, b) ∈ T) (h1 : a ≤ r) (h2 : r ≤ b) : inTab T r = true := List.any_eq_true.2 ⟨(a, b), hm, by simp [h1, h2]⟩
theorem control_three {r : Int} (h : inTab tControl r = true) : gcbI r = 3 := by
  obtain ⟨h1, h2, h3, h4⟩ := not_single (apart_not ap_cs h)
  have hl : listedI r = 3 := by unfold listedI; simp [h]
  unfold gcbI
  rw [if_neg h1, if_neg h2, if_neg h3, if_neg h4, if_neg (by omega), hl]
theorem silent_zero {r : Int} (h : silB r = true) : runeW r = 0 := by
  have h' : (0 ≤ r ∧ r ≤ 31) ∨ (127 ≤ r ∧ r ≤ 159) := by unfold silB at h; simpa using h
  have hg : gcbI r = 1 ∨ gcbI r = 2 ∨ gcbI r = 3 := by
    by_cases h13 : r = 13
    · subst h13; exact .inl (by decide +kernel)
    by_cases h10 : r = 10
    · subst h10; exact .inr (.inl (by decide +kernel))
    refine .inr (.inr (control_three ?_))
    by_cases e1 : r ≤ 9
    · exact inT 0 9 r (by decide) (by omega) e1
    by_cases e2 : r ≤ 12
    · exact inT 11 12 r (by decide) (by omega) e2
    by_cases e3 : r ≤ 31
    · exact inT 14 31 r (by decide) (by omega) e3
    · exact inT 127 159 r (by decide) (by omega) (by omega)
  unfold runeW basewI
  rw [if_pos (by omega)]
set_option maxRecDepth 100000 in
theorem brune_any (r : Int) (w : World) : Calls Try.prog 34 #[.int .i32 r] w (Gives w (.int .i64 (runeW r))) := by
  go_enter Try.func34, Try.ntmps34
  go_wp2_with fail
  refine (ucdof_any r _).mono ?_
  rintro e w1 ⟨rfl, b1⟩
  go_wp2_with fail
  refine (bof_any (gcbI r) (inTab tPict r) (conjO r) (eastI r) _).mono ?_
  rintro e w2 ⟨rfl, b2⟩
  have b2 := b1.trans (b2.mono b1.size)
  go_wp2
  go_ret
  exact ⟨(ret_eq (by first | rfl | (simp <;> omega))), b2⟩
set_option maxRecDepth 100000 in
theorem rbrune_any (r : Int) (w : World) (r0 : -2147483648 ≤ r) (r1 : r ≤ 2147483647) : Calls Try.prog 35 #[.int .i32 r] w (Gives w (.int .i64 (runeW r))) := by
  go_enter Try.func35, Try.ntmps35
  go_wp2_with fail
  refine (rucdof_any r _ r0 r1).mono ?_
  rintro e w1 ⟨rfl, b1⟩
  go_wp2_with fail
  refine (rbof_any (gcbI r) (inTab tPict r) (conjO r) (eastI r) _).mono ?_
  rintro e w2 ⟨rfl, b2⟩
  have b2 := b1.trans (b2.mono b1.size)
  go_wp2
  go_ret
  exact ⟨(ret_eq (by first | rfl | (simp <;> omega))), b2⟩
theorem sil_cases (r : Int) : (decide (0 ≤ r) = true ∧ decide (r ≤ 31) = true ∧ silB r = true) ∨ (decide (0 ≤ r) = true ∧ decide (r ≤ 31) = false ∧ decide (127 ≤ r) = true ∧ decide (r ≤ 159) = true ∧ silB r = true)
    ∨ (decide (0 ≤ r) = true ∧ decide (r ≤ 31) = false ∧ decide (127 ≤ r) = true ∧ decide (r ≤ 159) = false ∧ silB r = false) ∨ (decide (0 ≤ r) = true ∧ decide (r ≤ 31) = false ∧ decide (127 ≤ r) = false ∧ silB r = false)
    ∨ (decide (0 ≤ r) = false ∧ decide (127 ≤ r) = false ∧ silB r = false) := by
  unfold silB
  simp only [decide_eq_true_eq, decide_eq_false_iff_not, Bool.or_eq_true, Bool.and_eq_true, Bool.or_eq_false_iff, Bool.and_eq_false_iff]
  omega
set_option maxRecDepth 100000 in
theorem bsil_any (r : Int) (w : World) : Calls Try.prog 36 #[.int .i32 r] w (Gives w (.bool (silB r))) := by
  rcases sil_cases r with ⟨h1, h2, hs⟩ | ⟨h1, h2, h3, h4, hs⟩ | ⟨h1, h2, h3, h4, hs⟩ | ⟨h1, h2, h3, hs⟩ | ⟨h1, h2, hs⟩
  all_goals
    have HS := Lib.hid hs
    clear hs
    go_enter Try.func36, Try.ntmps36
    go_wp2
    go_ret
    exact ⟨ret_eq (by rw [HS.out]; first | rfl | simp), Below.refl _ _⟩
set_option maxRecDepth 100000 in
theorem rbsil_any (r : Int) (w : World) : Calls Try.prog 37 #[.int .i32 r] w (Gives w (.bool (silB r))) := by
  rcases sil_cases r with ⟨h1, h2, hs⟩ | ⟨h1, h2, h3, h4, hs⟩ | ⟨h1, h2, h3, h4, hs⟩ | ⟨h1, h2, h3, hs⟩ | ⟨h1, h2, hs⟩
  all_goals
    have HS := Lib.hid hs
    clear hs
    go_enter Try.func37, Try.ntmps37
    go_wp2
    go_ret
    exact ⟨ret_eq (by rw [HS.out]; first | rfl | simp), Below.refl _ _⟩
set_option maxRecDepth 100000 in
theorem works18_any (w : World) : Calls Try.prog 38 #[] w (Yes w) := by
  go_enter Try.func38, Try.ntmps38
  go_wp2_with fail
  refine (brune_any 97 _).mono ?_
  rintro e w1 ⟨rfl, b1⟩
  rw [show runeW 97 = 1 from by decide +kernel]
  go_wp2_with fail
  refine (brune_any 19968 _).mono ?_
  rintro e w2 ⟨rfl, b2⟩
  rw [show runeW 19968 = 2 from by decide +kernel]
  have b2 := b1.trans (b2.mono b1.size)
  go_wp2_with fail
  refine (brune_any 769 _).mono ?_
  rintro e w3 ⟨rfl, b3⟩
  rw [show runeW 769 = 0 from by decide +kernel]
  have b3 := b2.trans (b3.mono b2.size)
  go_wp2_with fail
  refine (brune_any 127995 _).mono ?_
  rintro e w4 ⟨rfl, b4⟩
  rw [show runeW 127995 = 0 from by decide +kernel]
  have b4 := b3.trans (b4.mono b3.size)
  go_wp2_with (go_at_call 36; refine (bsil_any 27 _).mono ?_; rintro e w5 ⟨rfl, b5⟩; rw [show silB 27 = true from by decide +kernel]; have b5 := b4.trans (b5.mono b4.size))
  go_ret
  exact ⟨(ret_eq (by first | rfl | (simp <;> omega))), by assumption⟩
end Go.Proofs.Ythagaoakeniikaa
