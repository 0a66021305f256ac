/- What looking back in a row of properties tells: the plain part. -/
import Derived.Test.YtmfoldohmbaikaaSegM
namespace Go.Proofs.Ytmfoldohmbaikaa
open Go.RowKit Go.ChangeShapes Go.WideShapes
theorem cBack_cases (xs : List Pr) (k n : Nat) : ((xs.getD k Pr.none).cv = 1 ∧ cBack xs (k + 1) n = decide (0 < n)) ∨ (((xs.getD k Pr.none).cv == 1) = false ∧ (xs.getD k Pr.none).cv = 2 ∧ cBack xs (k + 1) n = cBack xs k (n + 1))
    ∨ (((xs.getD k Pr.none).cv == 1) = false ∧ ((xs.getD k Pr.none).cv == 2) = false ∧ (xs.getD k Pr.none).cv = 3 ∧ cBack xs (k + 1) n = cBack xs k n)
    ∨ (((xs.getD k Pr.none).cv == 1) = false ∧ ((xs.getD k Pr.none).cv == 2) = false ∧ ((xs.getD k Pr.none).cv == 3) = false ∧ cBack xs (k + 1) n = false) := by
  have hstep : cBack xs (k + 1) n = (if (xs.getD k Pr.none).cv = 1 then decide (0 < n) else if (xs.getD k Pr.none).cv = 2 then cBack xs k (n + 1) else if (xs.getD k Pr.none).cv = 3 then cBack xs k n else false) := rfl
  rw [hstep]
  generalize (xs.getD k Pr.none).cv = c
  by_cases h1 : c = 1
  · exact .inl ⟨h1, by rw [if_pos h1]⟩
  · have d1 : (c == 1) = false := by simpa using h1
    rw [if_neg h1]
    by_cases h2 : c = 2
    · exact .inr (.inl ⟨d1, h2, by rw [if_pos h2]⟩)
    · have d2 : (c == 2) = false := by simpa using h2
      rw [if_neg h2]
      by_cases h3 : c = 3
      · exact .inr (.inr (.inl ⟨d1, d2, h3, by rw [if_pos h3]⟩))
      · exact .inr (.inr (.inr ⟨d1, d2, by simpa using h3, by rw [if_neg h3]⟩))
theorem pBack_cases (xs : List Pr) (k : Nat) : ((xs.getD k Pr.none).pc = true ∧ pBack xs (k + 1) = true) ∨ ((xs.getD k Pr.none).pc = false ∧ (xs.getD k Pr.none).br = 4 ∧ pBack xs (k + 1) = pBack xs k) ∨ ((xs.getD k Pr.none).pc = false ∧ ((xs.getD k Pr.none).br == 4) = false ∧ pBack xs (k + 1) = false) := by
  have hstep : pBack xs (k + 1) = (if (xs.getD k Pr.none).pc = true then true else if (xs.getD k Pr.none).br = 4 then pBack xs k else false) := rfl
  rw [hstep]
  generalize (xs.getD k Pr.none).br = b
  generalize (xs.getD k Pr.none).pc = c
  cases c with
  | true => exact .inl ⟨rfl, rfl⟩
  | false =>
    by_cases h : b = 4
    · exact .inr (.inl ⟨rfl, h, by simp [h]⟩)
    · exact .inr (.inr ⟨rfl, by simpa using h, by simp [h]⟩)
theorem picR_cases (xs : List Pr) (i : Nat) : ((xs.getD i Pr.none).pc = false ∧ picR xs i = false) ∨ ((xs.getD i Pr.none).pc = true ∧ i < 2 ∧ picR xs i = false)
    ∨ ((xs.getD i Pr.none).pc = true ∧ 2 ≤ i ∧ ((xs.getD (i - 1) Pr.none).br == 5) = false ∧ picR xs i = false) ∨ ((xs.getD i Pr.none).pc = true ∧ 2 ≤ i ∧ (xs.getD (i - 1) Pr.none).br = 5 ∧ (xs.getD (i - 1) Pr.none).pc = true ∧ picR xs i = false)
    ∨ ((xs.getD i Pr.none).pc = true ∧ 2 ≤ i ∧ (xs.getD (i - 1) Pr.none).br = 5 ∧ (xs.getD (i - 1) Pr.none).pc = false ∧ picR xs i = pBack xs (i - 1)) := by
  unfold picR
  generalize (xs.getD i Pr.none).pc = a
  generalize (xs.getD (i - 1) Pr.none).br = b
  generalize (xs.getD (i - 1) Pr.none).pc = c
  cases a with
  | false => exact .inl ⟨rfl, rfl⟩
  | true =>
    by_cases h2 : 2 ≤ i
    · by_cases h5 : b = 5
      · cases c with
        | true => exact .inr (.inr (.inr (.inl ⟨rfl, h2, h5, rfl, by simp⟩)))
        | false => exact .inr (.inr (.inr (.inr ⟨rfl, h2, h5, rfl, by simp [h2, h5]⟩)))
      · exact .inr (.inr (.inl ⟨rfl, h2, by simpa using h5, by simp [h5]⟩))
    · exact .inr (.inl ⟨rfl, by omega, by simp [h2]⟩)
theorem jR_cases (xs : List Pr) (m : Nat) (j : Int) (hj : joinI (xs.getD m Pr.none).br (xs.getD (m + 1) Pr.none).br = j) :
    ((j == 1) = true ∧ jR xs (m + 1) = true) ∨ ((j == 1) = false ∧ conR xs (m + 1) = true ∧ jR xs (m + 1) = true) ∨ ((j == 1) = false ∧ conR xs (m + 1) = false ∧ picR xs (m + 1) = true ∧ jR xs (m + 1) = true)
    ∨ ((j == 1) = false ∧ conR xs (m + 1) = false ∧ picR xs (m + 1) = false ∧ (j != 2) = true ∧ jR xs (m + 1) = false)
    ∨ ((j == 1) = false ∧ conR xs (m + 1) = false ∧ picR xs (m + 1) = false ∧ (j != 2) = false ∧ ((xs.getD (m + 1) Pr.none).br != 6) = true ∧ jR xs (m + 1) = false)
    ∨ ((j == 1) = false ∧ conR xs (m + 1) = false ∧ picR xs (m + 1) = false ∧ (j != 2) = false ∧ ((xs.getD (m + 1) Pr.none).br != 6) = false ∧ jR xs (m + 1) = decide (nBack xs (m + 1) % 2 = 1)) := by
  unfold jR
  rw [if_neg (show ¬ m + 1 = 0 by omega), show m + 1 - 1 = m by omega, hj]
  generalize (xs.getD (m + 1) Pr.none).br = b at *
  generalize conR xs (m + 1) = c
  generalize picR xs (m + 1) = p
  by_cases h1 : j = 1
  · exact .inl ⟨by simpa using h1, by rw [if_pos h1]⟩
  have d1 : (j == 1) = false := by simpa using h1
  rw [if_neg h1]
  cases c with
  | true => exact .inr (.inl ⟨d1, rfl, rfl⟩)
  | false =>
    cases p with
    | true => exact .inr (.inr (.inl ⟨d1, rfl, rfl, rfl⟩))
    | false =>
      by_cases h2 : j = 2
      · have d2 : (j != 2) = false := by simpa using h2
        by_cases h6 : b = 6
        · exact .inr (.inr (.inr (.inr (.inr ⟨d1, rfl, rfl, d2, by simpa using h6, by simp [h2, h6]⟩))))
        · exact .inr (.inr (.inr (.inr (.inl ⟨d1, rfl, rfl, d2, by simpa using h6, by simp [h6]⟩))))
      · exact .inr (.inr (.inr (.inl ⟨d1, rfl, rfl, by simpa using h2, by simp [h2]⟩)))
theorem nBack_cases (xs : List Pr) (k : Nat) : (((xs.getD k Pr.none).br == 6) = true ∧ nBack xs (k + 1) = nBack xs k + 1) ∨ (((xs.getD k Pr.none).br == 6) = false ∧ nBack xs (k + 1) = 0) := by
  have hstep : nBack xs (k + 1) = (if (xs.getD k Pr.none).br = 6 then nBack xs k + 1 else 0) := rfl
  rw [hstep]
  generalize (xs.getD k Pr.none).br = b
  by_cases h : b = 6
  · exact .inl ⟨by simpa using h, by rw [if_pos h]⟩
  · exact .inr ⟨by simpa using h, by rw [if_neg h]⟩
end Go.Proofs.Ytmfoldohmbaikaa
