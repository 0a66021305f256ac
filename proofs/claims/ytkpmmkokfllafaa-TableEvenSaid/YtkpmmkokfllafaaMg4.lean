/- Texts put together: SegM, SegR, SegJ, TabM, TabW. -/
import Derived.Test.YtkpmmkokfllafaaSegD
import Derived.Test.YtkpmmkokfllafaaMg2
import Derived.Test.YtkpmmkokfllafaaPairsR
import Derived.Test.YtkpmmkokfllafaaMg1
import Derived.Test.YtkpmmkokfllafaaTabG
import Derived.Test.YtkpmmkokfllafaaMg3
/- A row of properties: what the state is behind each of them, and what looking back from a place tells: they agree. -/
namespace Go.Proofs.Ytkpmmkokfllafaa
open Go.RowKit Go.ChangeShapes Go.WideShapes
/-- The state's parts behind the first k. -/
def cSt (xs : List Pr) : Nat → Int
  | 0 => 0
  | k + 1 => conjI (cSt xs k) (xs.getD k Pr.none).cv
def pSt (xs : List Pr) : Nat → Int
  | 0 => 0
  | k + 1 => picI (pSt xs k) (xs.getD k Pr.none).br (xs.getD k Pr.none).pc
def oSt (xs : List Pr) : Nat → Bool
  | 0 => false
  | k + 1 => (xs.getD k Pr.none).br == 6 && !oSt xs k
def lSt (xs : List Pr) : Nat → Int
  | 0 => 0
  | k + 1 => (xs.getD k Pr.none).br
/-- Looking back from k: for a consonant with a linker behind it; a picture; how many RI. -/
def cBack (xs : List Pr) : Nat → Nat → Bool
  | 0, _ => false
  | k + 1, n => if (xs.getD k Pr.none).cv = 1 then decide (0 < n) else if (xs.getD k Pr.none).cv = 2 then cBack xs k (n + 1) else if (xs.getD k Pr.none).cv = 3 then cBack xs k n else false
def pBack (xs : List Pr) : Nat → Bool
  | 0 => false
  | k + 1 => if (xs.getD k Pr.none).pc = true then true else if (xs.getD k Pr.none).br = 4 then pBack xs k else false
def nBack (xs : List Pr) : Nat → Nat
  | 0 => 0
  | k + 1 => if (xs.getD k Pr.none).br = 6 then nBack xs k + 1 else 0
theorem cSt_bd (xs : List Pr) (k : Nat) : cSt xs k = 0 ∨ cSt xs k = 1 ∨ cSt xs k = 2 := by
  induction k with
  | zero => exact .inl rfl
  | succ k ih => unfold cSt conjI; split <;> (try split) <;> (try split) <;> omega
theorem pSt_bd (xs : List Pr) (k : Nat) : pSt xs k = 0 ∨ pSt xs k = 1 ∨ pSt xs k = 2 := by
  cases k with
  | zero => exact .inl rfl
  | succ k => unfold pSt picI; split <;> (try split) <;> (try split) <;> (try split) <;> omega
theorem cBack_st (xs : List Pr) (k : Nat) : ∀ n, cBack xs k n = (if n = 0 then decide (cSt xs k = 2) else decide (cSt xs k ≠ 0)) := by
  induction k with
  | zero => intro n; simp [cBack, cSt]
  | succ k ih =>
    intro n
    have hb := cSt_bd xs k
    unfold cBack cSt conjI
    simp only [ih]
    generalize (xs.getD k Pr.none).cv = c
    generalize cSt xs k = s at *
    have h0 : n + 1 ≠ 0 := by omega
    by_cases h1 : c = 1
    · subst h1; by_cases hn : n = 0 <;> simp [hn]; omega
    by_cases h2 : c = 2
    · subst h2; rcases hb with rfl | rfl | rfl <;> by_cases hn : n = 0 <;> simp [hn]
    by_cases h3 : c = 3
    · subst h3; simp
    · simp [h1, h2, h3]
theorem pBack_st (xs : List Pr) (k : Nat) : pBack xs k = decide (pSt xs k = 1) := by
  induction k with
  | zero => simp [pBack, pSt]
  | succ k ih =>
    unfold pBack pSt picI
    simp only [ih]
    generalize (xs.getD k Pr.none).br = b
    generalize (xs.getD k Pr.none).pc = c
    generalize pSt xs k = s
    cases c with
    | true => simp
    | false =>
      by_cases h4 : b = 4
      · subst h4; by_cases h1 : s = 1 <;> simp [h1]
      · by_cases h1 : s = 1
        · by_cases h5 : b = 5 <;> simp [h1, h4, h5]
        · simp [h1, h4]
theorem nBack_st (xs : List Pr) (k : Nat) : decide (nBack xs k % 2 = 1) = oSt xs k := by
  induction k with
  | zero => simp [nBack, oSt]
  | succ k ih =>
    unfold nBack oSt
    rw [← ih]
    generalize (xs.getD k Pr.none).br = b
    generalize nBack xs k = m
    by_cases h : b = 6
    · subst h
      by_cases h2 : m % 2 = 1
      · have h3 : ¬ (m + 1) % 2 = 1 := by omega
        simp [h2, h3]
      · have h3 : (m + 1) % 2 = 1 := by omega
        simp [h2, h3]
    · simp [h]
theorem oSt_last (xs : List Pr) (k : Nat) (h : oSt xs k = true) : lSt xs k = 6 ∧ 0 < k := by
  cases k with
  | zero => simp [oSt] at h
  | succ k => simp [oSt] at h; exact ⟨h.1, by omega⟩
/-- The reference's word: does the picture rule join at place i? -/
def picR (xs : List Pr) (i : Nat) : Bool := (xs.getD i Pr.none).pc && (decide (2 ≤ i) && (decide ((xs.getD (i - 1) Pr.none).br = 5) && (!(xs.getD (i - 1) Pr.none).pc && pBack xs (i - 1))))
theorem picR_st (xs : List Pr) (i : Nat) : picR xs i = ((xs.getD i Pr.none).pc && decide (pSt xs i = 2)) := by
  unfold picR
  congr 1
  cases i with
  | zero => simp [pSt]
  | succ k =>
    rw [pBack_st]
    simp only [Nat.add_sub_cancel]
    have hb := pSt_bd xs k
    cases k with
    | zero => simp only [pSt, picI]; cases (xs.getD 0 Pr.none).pc <;> simp
    | succ m =>
      rw [decide_eq_true (by omega), Bool.true_and]
      show _ = decide (picI (pSt xs (m + 1)) (xs.getD (m + 1) Pr.none).br (xs.getD (m + 1) Pr.none).pc = 2)
      unfold picI
      generalize (xs.getD (m + 1) Pr.none).br = b
      generalize (xs.getD (m + 1) Pr.none).pc = c
      generalize pSt xs (m + 1) = s
      cases c with
      | true => simp
      | false =>
        by_cases h1 : s = 1
        · by_cases h4 : b = 4
          · simp [h1, h4]
          · by_cases h5 : b = 5 <;> simp [h1, h4, h5]
        · simp [h1]
def conR (xs : List Pr) (i : Nat) : Bool := (xs.getD i Pr.none).cv == 1 && cBack xs i 0
/-- The reference's word: does the one at place i join? -/
def jR (xs : List Pr) (i : Nat) : Bool :=
  if i = 0 then false else if joinI (xs.getD (i - 1) Pr.none).br (xs.getD i Pr.none).br = 1 then true else if conR xs i = true then true else if picR xs i = true then true
  else if joinI (xs.getD (i - 1) Pr.none).br (xs.getD i Pr.none).br ≠ 2 then false else if (xs.getD i Pr.none).br ≠ 6 then false else decide (nBack xs i % 2 = 1)
theorem jR_st (xs : List Pr) (i : Nat) : jR xs i = joinsB (decide (0 < i)) (lSt xs i) (cSt xs i) (pSt xs i) (oSt xs i) (xs.getD i Pr.none).br (xs.getD i Pr.none).pc (xs.getD i Pr.none).cv := by
  cases i with
  | zero => simp [jR, joinsB]
  | succ k =>
    have hl : (xs.getD (k + 1 - 1) Pr.none).br = lSt xs (k + 1) := rfl
    have ho := oSt_last xs (k + 1)
    unfold jR joinsB conR
    rw [hl, cBack_st, if_pos rfl, picR_st, nBack_st]
    rw [if_neg (show ¬ k + 1 = 0 by omega), if_neg (show ¬ decide (0 < k + 1) = false by simp)]
    generalize (xs.getD (k + 1) Pr.none).br = b
    generalize (xs.getD (k + 1) Pr.none).pc = c
    generalize (xs.getD (k + 1) Pr.none).cv = v
    generalize cSt xs (k + 1) = s1
    generalize pSt xs (k + 1) = s2
    generalize oSt xs (k + 1) = od at *
    generalize lSt xs (k + 1) = la at *
    by_cases h1 : joinI la b = 1
    · simp [h1]
    · rw [if_neg h1, if_neg h1]
      by_cases h2 : v = 1 ∧ s1 = 2
      · rw [if_pos h2, if_pos (by simp [h2.1, h2.2])]
      · rw [if_neg h2, if_neg (by simpa using h2)]
        by_cases h3 : c = true ∧ s2 = 2
        · rw [if_pos h3, if_pos (by simp [h3.1, h3.2])]
        · rw [if_neg h3, if_neg (by simpa using h3)]
          by_cases h6 : b = 6
          · subst h6
            cases od with
            | true =>
              rw [(ho rfl).1]
              rfl
            | false => simp
          · simp [h6]
end Go.Proofs.Ytkpmmkokfllafaa
/- Contracts of the reference's functions of layer 15. -/
namespace Go.Proofs.Ytkpmmkokfllafaa
open Go.RowKit Go.ChangeShapes Go.WideShapes
theorem cBack_cases (xs : List Pr) (k n : Nat) : ((xs.getD k Pr.none).cv = 1 ∧ cBack xs (k + 1) n = decide (0 < n)) ∨ (((xs.getD k Pr.none).cv == 1) = false ∧ (xs.getD k Pr.none).cv = 2 ∧ cBack xs (k + 1) n = cBack xs k (n + 1))
    ∨ (((xs.getD k Pr.none).cv == 1) = false ∧ ((xs.getD k Pr.none).cv == 2) = false ∧ (xs.getD k Pr.none).cv = 3 ∧ cBack xs (k + 1) n = cBack xs k n)
    ∨ (((xs.getD k Pr.none).cv == 1) = false ∧ ((xs.getD k Pr.none).cv == 2) = false ∧ ((xs.getD k Pr.none).cv == 3) = false ∧ cBack xs (k + 1) n = false) := by
  have hstep : cBack xs (k + 1) n = (if (xs.getD k Pr.none).cv = 1 then decide (0 < n) else if (xs.getD k Pr.none).cv = 2 then cBack xs k (n + 1) else if (xs.getD k Pr.none).cv = 3 then cBack xs k n else false) := rfl
  rw [hstep]
  generalize (xs.getD k Pr.none).cv = c
  by_cases h1 : c = 1
  · exact .inl ⟨h1, by rw [if_pos h1]⟩
  · have d1 : (c == 1) = false := by simpa using h1
    rw [if_neg h1]
    by_cases h2 : c = 2
    · exact .inr (.inl ⟨d1, h2, by rw [if_pos h2]⟩)
    · have d2 : (c == 2) = false := by simpa using h2
      rw [if_neg h2]
      by_cases h3 : c = 3
      · exact .inr (.inr (.inl ⟨d1, d2, h3, by rw [if_pos h3]⟩))
      · exact .inr (.inr (.inr ⟨d1, d2, by simpa using h3, by rw [if_neg h3]⟩))
theorem pBack_cases (xs : List Pr) (k : Nat) : ((xs.getD k Pr.none).pc = true ∧ pBack xs (k + 1) = true) ∨ ((xs.getD k Pr.none).pc = false ∧ (xs.getD k Pr.none).br = 4 ∧ pBack xs (k + 1) = pBack xs k) ∨ ((xs.getD k Pr.none).pc = false ∧ ((xs.getD k Pr.none).br == 4) = false ∧ pBack xs (k + 1) = false) := by
  have hstep : pBack xs (k + 1) = (if (xs.getD k Pr.none).pc = true then true else if (xs.getD k Pr.none).br = 4 then pBack xs k else false) := rfl
  rw [hstep]
  generalize (xs.getD k Pr.none).br = b
  generalize (xs.getD k Pr.none).pc = c
  cases c with
  | true => exact .inl ⟨rfl, rfl⟩
  | false =>
    by_cases h : b = 4
    · exact .inr (.inl ⟨rfl, h, by simp [h]⟩)
    · exact .inr (.inr ⟨rfl, by simpa using h, by simp [h]⟩)
theorem picR_cases (xs : List Pr) (i : Nat) : ((xs.getD i Pr.none).pc = false ∧ picR xs i = false) ∨ ((xs.getD i Pr.none).pc = true ∧ i < 2 ∧ picR xs i = false)
    ∨ ((xs.getD i Pr.none).pc = true ∧ 2 ≤ i ∧ ((xs.getD (i - 1) Pr.none).br == 5) = false ∧ picR xs i = false) ∨ ((xs.getD i Pr.none).pc = true ∧ 2 ≤ i ∧ (xs.getD (i - 1) Pr.none).br = 5 ∧ (xs.getD (i - 1) Pr.none).pc = true ∧ picR xs i = false)
    ∨ ((xs.getD i Pr.none).pc = true ∧ 2 ≤ i ∧ (xs.getD (i - 1) Pr.none).br = 5 ∧ (xs.getD (i - 1) Pr.none).pc = false ∧ picR xs i = pBack xs (i - 1)) := by
  unfold picR
  generalize (xs.getD i Pr.none).pc = a
  generalize (xs.getD (i - 1) Pr.none).br = b
  generalize (xs.getD (i - 1) Pr.none).pc = c
  cases a with
  | false => exact .inl ⟨rfl, rfl⟩
  | true =>
    by_cases h2 : 2 ≤ i
    · by_cases h5 : b = 5
      · cases c with
        | true => exact .inr (.inr (.inr (.inl ⟨rfl, h2, h5, rfl, by simp⟩)))
        | false => exact .inr (.inr (.inr (.inr ⟨rfl, h2, h5, rfl, by simp [h2, h5]⟩)))
      · exact .inr (.inr (.inl ⟨rfl, h2, by simpa using h5, by simp [h5]⟩))
    · exact .inr (.inl ⟨rfl, by omega, by simp [h2]⟩)
end Go.Proofs.Ytkpmmkokfllafaa
/- The reference's Joins of layer 15. -/
namespace Go.Proofs.Ytkpmmkokfllafaa
open Go.RowKit Go.ChangeShapes Go.WideShapes
theorem jR_cases (xs : List Pr) (m : Nat) (j : Int) (hj : joinI (xs.getD m Pr.none).br (xs.getD (m + 1) Pr.none).br = j) :
    ((j == 1) = true ∧ jR xs (m + 1) = true) ∨ ((j == 1) = false ∧ conR xs (m + 1) = true ∧ jR xs (m + 1) = true) ∨ ((j == 1) = false ∧ conR xs (m + 1) = false ∧ picR xs (m + 1) = true ∧ jR xs (m + 1) = true)
    ∨ ((j == 1) = false ∧ conR xs (m + 1) = false ∧ picR xs (m + 1) = false ∧ (j != 2) = true ∧ jR xs (m + 1) = false)
    ∨ ((j == 1) = false ∧ conR xs (m + 1) = false ∧ picR xs (m + 1) = false ∧ (j != 2) = false ∧ ((xs.getD (m + 1) Pr.none).br != 6) = true ∧ jR xs (m + 1) = false)
    ∨ ((j == 1) = false ∧ conR xs (m + 1) = false ∧ picR xs (m + 1) = false ∧ (j != 2) = false ∧ ((xs.getD (m + 1) Pr.none).br != 6) = false ∧ jR xs (m + 1) = decide (nBack xs (m + 1) % 2 = 1)) := by
  unfold jR
  rw [if_neg (show ¬ m + 1 = 0 by omega), show m + 1 - 1 = m by omega, hj]
  generalize (xs.getD (m + 1) Pr.none).br = b at *
  generalize conR xs (m + 1) = c
  generalize picR xs (m + 1) = p
  by_cases h1 : j = 1
  · exact .inl ⟨by simpa using h1, by rw [if_pos h1]⟩
  have d1 : (j == 1) = false := by simpa using h1
  rw [if_neg h1]
  cases c with
  | true => exact .inr (.inl ⟨d1, rfl, rfl⟩)
  | false =>
    cases p with
    | true => exact .inr (.inr (.inl ⟨d1, rfl, rfl, rfl⟩))
    | false =>
      by_cases h2 : j = 2
      · have d2 : (j != 2) = false := by simpa using h2
        by_cases h6 : b = 6
        · exact .inr (.inr (.inr (.inr (.inr ⟨d1, rfl, rfl, d2, by simpa using h6, by simp [h2, h6]⟩))))
        · exact .inr (.inr (.inr (.inr (.inl ⟨d1, rfl, rfl, d2, by simpa using h6, by simp [h6]⟩))))
      · exact .inr (.inr (.inr (.inl ⟨d1, rfl, rfl, by simpa using h2, by simp [h2]⟩)))
theorem nBack_cases (xs : List Pr) (k : Nat) : (((xs.getD k Pr.none).br == 6) = true ∧ nBack xs (k + 1) = nBack xs k + 1) ∨ (((xs.getD k Pr.none).br == 6) = false ∧ nBack xs (k + 1) = 0) := by
  have hstep : nBack xs (k + 1) = (if (xs.getD k Pr.none).br = 6 then nBack xs k + 1 else 0) := rfl
  rw [hstep]
  generalize (xs.getD k Pr.none).br = b
  by_cases h : b = 6
  · exact .inl ⟨by simpa using h, by rw [if_pos h]⟩
  · exact .inr ⟨by simpa using h, by rw [if_neg h]⟩
end Go.Proofs.Ytkpmmkokfllafaa
/- What the program's tables tell and what the reference's lists tell agree; what pictures and conjuncts are in classes. -/
namespace Go.Proofs.Ytkpmmkokfllafaa
open Go.RowKit Go.ChangeShapes Go.WideShapes
theorem one_dec (a r : Int) : inTab [(a, a)] r = decide (r = a) := by
  rw [inTab_one]
  by_cases h : r = a
  · subst h; simp
  · rw [decide_eq_false h]
    by_cases h1 : a ≤ r
    · rw [decide_eq_false (show ¬ r ≤ a by omega)]; simp
    · rw [decide_eq_false h1]; rfl
def tSingle : List (Int × Int) := [(13, 13), (10, 10), (8205, 8205), (127462, 127487)]
theorem not_single {r : Int} (h : inTab tSingle r = false) : r ≠ 13 ∧ r ≠ 10 ∧ r ≠ 8205 ∧ ¬ (127462 ≤ r ∧ r ≤ 127487) := by
  simp [inTab, tSingle] at h
  omega
theorem not_hangul {r : Int} (h : inTab [(4352, 4607), (43360, 43388), (44032, 55203), (55216, 55238), (55243, 55291)] r = false) : classI r = 0 := by
  simp [inTab] at h
  unfold classI
  rw [if_neg (by omega), if_neg (by omega), if_neg (by omega), if_pos (by omega)]
theorem ap_cs : apart tControl tSingle = true := by decide +kernel
theorem ap_es : apart tExtend tSingle = true := by decide +kernel
theorem ap_sp : apart tSpacing tPrepend = true := by decide +kernel
theorem ap_ec : apart tExtend tControl = true := by decide +kernel
theorem gcb_ref (r : Int) : ofI tabs09 1 r (classI r) = gcbI r := by
  simp only [tabs09, ofI, tCR, tLF, tZWJ, one_dec, tRI, inTab_one]
  unfold gcbI listedI
  by_cases h13 : r = 13
  · simp [h13]
  by_cases h10 : r = 10
  · simp [h10]
  simp only [h13, h10, decide_false, Bool.false_eq_true, if_false]
  cases hc : inTab tControl r with
  | true =>
    obtain ⟨_, _, h1, h2⟩ := not_single (apart_not ap_cs hc)
    simp [h1, h2]
  | false =>
    cases he : inTab tExtend r with
    | true =>
      obtain ⟨_, _, h1, h2⟩ := not_single (apart_not ap_es he)
      simp [h1, h2]
    | false =>
      by_cases hz : r = 8205
      · simp [hz]
      by_cases hr : 127462 ≤ r ∧ r ≤ 127487
      · simp [hz, hr]
      · have hr' : ¬ ((decide (127462 ≤ r) && decide (r ≤ 127487)) = true) := by simpa using hr
        simp only [hz, hr, hr', decide_false, Bool.false_eq_true, if_false]
        cases hs : inTab tSpacing r with
        | true => rw [apart_not ap_sp hs]; simp
        | false =>
          cases hp : inTab tPrepend r <;> simp
theorem conj_ref (r : Int) : ofI tabs11 1 r 0 = conjO r := rfl
theorem east_ref (r : Int) : ofI tabs12 1 r 0 = eastI r := rfl
theorem listed_none {r : Int} (hc : inTab tControl r = false) (he : inTab tExtend r = false) (hs : inTab tSpacing r = false) (hp : inTab tPrepend r = false) : listedI r = 0 := by
  unfold listedI; simp [hc, he, hs, hp]
theorem ap_p1 : apart tPict tControl = true := by decide +kernel
theorem ap_p2 : apart tPict tExtend = true := by decide +kernel
theorem ap_p3 : apart tPict tSpacing = true := by decide +kernel
theorem ap_p4 : apart tPict tPrepend = true := by decide +kernel
theorem ap_p5 : apart tPict tSingle = true := by decide +kernel
theorem ap_p6 : apart tPict [(4352, 4607), (43360, 43388), (44032, 55203), (55216, 55238), (55243, 55291)] = true := by decide +kernel
theorem pict_other {r : Int} (h : inTab tPict r = true) : gcbI r = 0 := by
  obtain ⟨h1, h2, h3, h4⟩ := not_single (apart_not ap_p5 h)
  unfold gcbI
  rw [if_neg h1, if_neg h2, if_neg h3, if_neg h4, if_pos (listed_none (apart_not ap_p1 h) (apart_not ap_p2 h) (apart_not ap_p3 h) (apart_not ap_p4 h)), not_hangul (apart_not ap_p6 h)]
theorem wi_l : within tLink tExtend = true := by decide +kernel
theorem wi_j : within tJoin ((8205, 8205) :: tExtend) = true := by decide +kernel
theorem extend_four {r : Int} (h : inTab tExtend r = true) : gcbI r = 4 := by
  obtain ⟨h1, h2, h3, h4⟩ := not_single (apart_not ap_es h)
  have hl : listedI r = 4 := by unfold listedI; simp [apart_not ap_ec h, h]
  unfold gcbI
  rw [if_neg h1, if_neg h2, if_neg h3, if_neg h4, if_neg (by omega), hl]
theorem conj_class {r : Int} (h : 2 ≤ conjO r) : gcbI r = 4 ∨ gcbI r = 5 := by
  unfold conjO at h
  split at h
  · omega
  · split at h
    · rename_i hl
      exact .inl (extend_four (within_in wi_l hl))
    · split at h
      · rename_i hj
        have := within_in wi_j hj
        simp only [inTab, List.any_cons, Bool.or_eq_true] at this
        rcases this with h5 | h5
        · have : r = 8205 := by simp at h5; omega
          subst this
          exact .inr (by decide +kernel)
        · exact .inl (extend_four h5)
      · omega
end Go.Proofs.Ytkpmmkokfllafaa
/- works of layers 9 to 12; the reference's Is. -/
namespace Go.Proofs.Ytkpmmkokfllafaa
open Go.RowKit Go.ChangeShapes Go.WideShapes
end Go.Proofs.Ytkpmmkokfllafaa
