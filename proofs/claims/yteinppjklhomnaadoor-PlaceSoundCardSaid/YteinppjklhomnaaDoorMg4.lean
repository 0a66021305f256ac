/- Texts put together: ErfB, TabM. -/
import Derived.Test.YteinppjklhomnaaDoorErfA
import Derived.Test.YteinppjklhomnaaDoorMg3
import Derived.Test.YteinppjklhomnaaDoorTabH
/- api.At and api.Within: the places of an error's faults. -/
namespace Go.Proofs.YteinppjklhomnaaDoor.F
open Go.RowKit

theorem cell_setCell (w : World) (a : Addr) (v u : Value) (h : w.cell? a = some u) : (w.setCell a v).cell? a = some v := World.cell?_setCell_same' w a v (by rw [h]; rfl)

end Go.Proofs.YteinppjklhomnaaDoor.F
/- What the program's tables tell and what the reference's lists tell agree; what pictures and conjuncts are in classes. -/
namespace Go.Proofs.YteinppjklhomnaaDoor
open Go.RowKit Go.ChangeShapes Go.WideShapes
theorem one_dec (a r : Int) : inTab [(a, a)] r = decide (r = a) := by
  rw [inTab_one]
  by_cases h : r = a
  · subst h; simp
  · rw [decide_eq_false h]
    by_cases h1 : a ≤ r
    · rw [decide_eq_false (show ¬ r ≤ a by omega)]; simp
    · rw [decide_eq_false h1]; rfl
def tSingle : List (Int × Int) := [(13, 13), (10, 10), (8205, 8205), (127462, 127487)]
theorem not_single {r : Int} (h : inTab tSingle r = false) : r ≠ 13 ∧ r ≠ 10 ∧ r ≠ 8205 ∧ ¬ (127462 ≤ r ∧ r ≤ 127487) := by
  simp [inTab, tSingle] at h
  omega
theorem not_hangul {r : Int} (h : inTab [(4352, 4607), (43360, 43388), (44032, 55203), (55216, 55238), (55243, 55291)] r = false) : classI r = 0 := by
  simp [inTab] at h
  unfold classI
  rw [if_neg (by omega), if_neg (by omega), if_neg (by omega), if_pos (by omega)]
theorem ap_cs : apart tControl tSingle = true := by decide +kernel
theorem ap_es : apart tExtend tSingle = true := by decide +kernel
theorem ap_sp : apart tSpacing tPrepend = true := by decide +kernel
theorem ap_ec : apart tExtend tControl = true := by decide +kernel
theorem gcb_ref (r : Int) : ofI tabs09 1 r (classI r) = gcbI r := by
  simp only [tabs09, ofI, tCR, tLF, tZWJ, one_dec, tRI, inTab_one]
  unfold gcbI listedI
  by_cases h13 : r = 13
  · simp [h13]
  by_cases h10 : r = 10
  · simp [h10]
  simp only [h13, h10, decide_false, Bool.false_eq_true, if_false]
  cases hc : inTab tControl r with
  | true =>
    obtain ⟨_, _, h1, h2⟩ := not_single (apart_not ap_cs hc)
    simp [h1, h2]
  | false =>
    cases he : inTab tExtend r with
    | true =>
      obtain ⟨_, _, h1, h2⟩ := not_single (apart_not ap_es he)
      simp [h1, h2]
    | false =>
      by_cases hz : r = 8205
      · simp [hz]
      by_cases hr : 127462 ≤ r ∧ r ≤ 127487
      · simp [hz, hr]
      · have hr' : ¬ ((decide (127462 ≤ r) && decide (r ≤ 127487)) = true) := by simpa using hr
        simp only [hz, hr, hr', decide_false, Bool.false_eq_true, if_false]
        cases hs : inTab tSpacing r with
        | true => rw [apart_not ap_sp hs]; simp
        | false =>
          cases hp : inTab tPrepend r <;> simp
theorem conj_ref (r : Int) : ofI tabs11 1 r 0 = conjO r := rfl
theorem east_ref (r : Int) : ofI tabs12 1 r 0 = eastI r := rfl
theorem listed_none {r : Int} (hc : inTab tControl r = false) (he : inTab tExtend r = false) (hs : inTab tSpacing r = false) (hp : inTab tPrepend r = false) : listedI r = 0 := by
  unfold listedI; simp [hc, he, hs, hp]
theorem ap_p1 : apart tPict tControl = true := by decide +kernel
theorem ap_p2 : apart tPict tExtend = true := by decide +kernel
theorem ap_p3 : apart tPict tSpacing = true := by decide +kernel
theorem ap_p4 : apart tPict tPrepend = true := by decide +kernel
theorem ap_p5 : apart tPict tSingle = true := by decide +kernel
theorem ap_p6 : apart tPict [(4352, 4607), (43360, 43388), (44032, 55203), (55216, 55238), (55243, 55291)] = true := by decide +kernel
theorem pict_other {r : Int} (h : inTab tPict r = true) : gcbI r = 0 := by
  obtain ⟨h1, h2, h3, h4⟩ := not_single (apart_not ap_p5 h)
  unfold gcbI
  rw [if_neg h1, if_neg h2, if_neg h3, if_neg h4, if_pos (listed_none (apart_not ap_p1 h) (apart_not ap_p2 h) (apart_not ap_p3 h) (apart_not ap_p4 h)), not_hangul (apart_not ap_p6 h)]
theorem wi_l : within tLink tExtend = true := by decide +kernel
theorem wi_j : within tJoin ((8205, 8205) :: tExtend) = true := by decide +kernel
theorem extend_four {r : Int} (h : inTab tExtend r = true) : gcbI r = 4 := by
  obtain ⟨h1, h2, h3, h4⟩ := not_single (apart_not ap_es h)
  have hl : listedI r = 4 := by unfold listedI; simp [apart_not ap_ec h, h]
  unfold gcbI
  rw [if_neg h1, if_neg h2, if_neg h3, if_neg h4, if_neg (by omega), hl]
theorem conj_class {r : Int} (h : 2 ≤ conjO r) : gcbI r = 4 ∨ gcbI r = 5 := by
  unfold conjO at h
  split at h
  · omega
  · split at h
    · rename_i hl
      exact .inl (extend_four (within_in wi_l hl))
    · split at h
      · rename_i hj
        have := within_in wi_j hj
        simp only [inTab, List.any_cons, Bool.or_eq_true] at this
        rcases this with h5 | h5
        · have : r = 8205 := by simp at h5; omega
          subst this
          exact .inr (by decide +kernel)
        · exact .inl (extend_four h5)
      · omega
set_option maxRecDepth 100000 in
theorem rpict_any (r : Int) (w : World) (r0 : -2147483648 ≤ r) (r1 : r ≤ 2147483647) : Calls Tryd.prog 104 #[.int .i32 r] w (Gives w (.bool (inTab tPict r))) := by
  go_enter Tryd.func104, Tryd.ntmps104
  go_wp2_with fail
  refine (r10list_any _).mono ?_
  rintro e w1 ⟨v1, rfl, h1, b1⟩
  go_wp2_with fail
  refine (in_any _ tPict r _ h1 (by rw [tPict_len]; decide) r0 r1).mono ?_
  rintro e w2 ⟨rfl, b2⟩
  go_wp2
  go_ret
  exact ⟨(ret_eq (by first | rfl | (simp <;> omega))), b1.trans (b2.mono b1.size)⟩
end Go.Proofs.YteinppjklhomnaaDoor
