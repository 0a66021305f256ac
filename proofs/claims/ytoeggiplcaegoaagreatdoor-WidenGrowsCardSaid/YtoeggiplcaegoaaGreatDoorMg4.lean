/- Texts put together: TabM, TabW. -/
import Derived.Test.YtoeggiplcaegoaaGreatDoorTabG
import Derived.Test.YtoeggiplcaegoaaGreatDoorTabH
import Derived.Test.YtoeggiplcaegoaaGreatDoorMg1
/- What the program's tables tell and what the reference's lists tell agree; what pictures and conjuncts are in classes. -/
namespace Go.Proofs.YtoeggiplcaegoaaGreatDoor
open Go.RowKit Go.ChangeShapes Go.WideShapes
theorem one_dec (a r : Int) : inTab [(a, a)] r = decide (r = a) := by
  rw [inTab_one]
  by_cases h : r = a
  · subst h; simp
  · rw [decide_eq_false h]
    by_cases h1 : a ≤ r
    · rw [decide_eq_false (show ¬ r ≤ a by omega)]; simp
    · rw [decide_eq_false h1]; rfl
def tSingle : List (Int × Int) := [(13, 13), (10, 10), (8205, 8205), (127462, 127487)]
theorem not_single {r : Int} (h : inTab tSingle r = false) : r ≠ 13 ∧ r ≠ 10 ∧ r ≠ 8205 ∧ ¬ (127462 ≤ r ∧ r ≤ 127487) := by
  simp [inTab, tSingle] at h
  omega
theorem ap_cs : apart tControl tSingle = true := by decide +kernel
theorem ap_es : apart tExtend tSingle = true := by decide +kernel
theorem ap_sp : apart tSpacing tPrepend = true := by decide +kernel
theorem gcb_ref (r : Int) : ofI tabs09 1 r (classI r) = gcbI r := by
  simp only [tabs09, ofI, tCR, tLF, tZWJ, one_dec, tRI, inTab_one]
  unfold gcbI listedI
  by_cases h13 : r = 13
  · simp [h13]
  by_cases h10 : r = 10
  · simp [h10]
  simp only [h13, h10, decide_false, Bool.false_eq_true, if_false]
  cases hc : inTab tControl r with
  | true =>
    obtain ⟨_, _, h1, h2⟩ := not_single (apart_not ap_cs hc)
    simp [h1, h2]
  | false =>
    cases he : inTab tExtend r with
    | true =>
      obtain ⟨_, _, h1, h2⟩ := not_single (apart_not ap_es he)
      simp [h1, h2]
    | false =>
      by_cases hz : r = 8205
      · simp [hz]
      by_cases hr : 127462 ≤ r ∧ r ≤ 127487
      · simp [hz, hr]
      · have hr' : ¬ ((decide (127462 ≤ r) && decide (r ≤ 127487)) = true) := by simpa using hr
        simp only [hz, hr, hr', decide_false, Bool.false_eq_true, if_false]
        cases hs : inTab tSpacing r with
        | true => rw [apart_not ap_sp hs]; simp
        | false =>
          cases hp : inTab tPrepend r <;> simp
theorem conj_ref (r : Int) : ofI tabs11 1 r 0 = conjO r := rfl
theorem east_ref (r : Int) : ofI tabs12 1 r 0 = eastI r := rfl
set_option maxRecDepth 100000 in
theorem rpict_any (r : Int) (w : World) (r0 : -2147483648 ≤ r) (r1 : r ≤ 2147483647) : Calls Tryz.prog 65 #[.int .i32 r] w (Gives w (.bool (inTab tPict r))) := by
  go_enter Tryz.func65, Tryz.ntmps65
  go_wp2_with fail
  refine (r10list_any _).mono ?_
  rintro e w1 ⟨v1, rfl, h1, b1⟩
  go_wp2_with fail
  refine (in_any _ tPict r _ h1 (by rw [tPict_len]; decide) r0 r1).mono ?_
  rintro e w2 ⟨rfl, b2⟩
  go_wp2
  go_ret
  exact ⟨(ret_eq (by first | rfl | (simp <;> omega))), b1.trans (b2.mono b1.size)⟩
end Go.Proofs.YtoeggiplcaegoaaGreatDoor
/- works of layers 9 to 12; the reference's Is. -/
namespace Go.Proofs.YtoeggiplcaegoaaGreatDoor
open Go.RowKit Go.ChangeShapes Go.WideShapes
end Go.Proofs.YtoeggiplcaegoaaGreatDoor
