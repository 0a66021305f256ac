/- What the bytes of a form tell: plain mathematics. -/
import Derived.Test.YtgdknabpdjohgaaOctetC
import Derived.Test.YtgdknabpdjohgaaScalM
namespace Go.Proofs.Ytgdknabpdjohgaa
open Go.RowKit Go.ChangeShapes Go.WideShapes
/-- The number of the first k bytes. -/
def numK (xs : List Int) : Nat → Int
  | 0 => 0
  | 1 => bitsI (xs.getD 0 0)
  | k + 2 => numK xs (k + 1) * 64 + xs.getD (k + 1) 0 - 128
theorem form_facts (r : Int) (hv : validB r = true) :
    leadI ((formL r).getD 0 0) = (formL r).length ∧ 1 ≤ (formL r).length ∧ (formL r).length ≤ 4 ∧ 0 ≤ (formL r).getD 0 0 ∧ (formL r).getD 0 0 ≤ 255 ∧ numK (formL r) (formL r).length = r ∧
    (∀ i, 1 ≤ i → i < (formL r).length → 128 ≤ (formL r).getD i 0 ∧ (formL r).getD i 0 ≤ 191) ∧
    (∀ k, 1 ≤ k → k ≤ (formL r).length → 0 ≤ numK (formL r) k ∧ numK (formL r) k ≤ 1114111) ∧
    (1 < (formL r).length → lo2 ((formL r).getD 0 0) ≤ (formL r).getD 1 0 ∧ (formL r).getD 1 0 ≤ hi2 ((formL r).getD 0 0)) := by
  obtain ⟨h0, h1, h2⟩ := validB_true.1 hv
  have e : formL r = if r < 128 then [r] else if r < 2048 then [192 + r / 64, 128 + r % 64]
    else if r < 65536 then [224 + r / 4096, 128 + r / 64 % 64, 128 + r % 64] else [240 + r / 262144, 128 + r / 4096 % 64, 128 + r / 64 % 64, 128 + r % 64] := by simp [formL, hv]
  by_cases a1 : r < 128
  · rw [e, if_pos a1]
    have l1 : leadI r = 1 := by unfold leadI; omega
    refine ⟨by simpa using l1, by simp, by simp, by simp; omega, by simp; omega, by simp [numK, bitsI, l1], ?_, ?_, ?_⟩
    · intro i i1 i2; simp at i2; omega
    · intro k i1 i2
      simp at i2
      obtain rfl : k = 1 := by omega
      simp [numK, bitsI, l1]; omega
    · intro i1; simp at i1
  · by_cases a2 : r < 2048
    · rw [e, if_neg a1, if_pos a2]
      have l1 : leadI (192 + r / 64) = 2 := by unfold leadI; omega
      refine ⟨by simpa using l1, by simp, by simp, by simp; omega, by simp; omega, ?_, ?_, ?_, ?_⟩
      · simp [numK, bitsI, l1]; omega
      · intro i i1 i2
        simp at i2
        obtain rfl : i = 1 := by omega
        simp; omega
      · intro k i1 i2
        simp at i2
        obtain rfl | rfl : k = 1 ∨ k = 2 := by omega
        all_goals (simp [numK, bitsI, l1]; try omega)
      · intro _; simp [lo2, hi2, l1]; omega
    · by_cases a3 : r < 65536
      · rw [e, if_neg a1, if_neg a2, if_pos a3]
        have l1 : leadI (224 + r / 4096) = 3 := by unfold leadI; omega
        refine ⟨by simpa using l1, by simp, by simp, by simp; omega, by simp; omega, ?_, ?_, ?_, ?_⟩
        · simp [numK, bitsI, l1]; omega
        · intro i i1 i2
          simp at i2
          obtain rfl | rfl : i = 1 ∨ i = 2 := by omega
          all_goals simp; omega
        · intro k i1 i2
          simp at i2
          obtain rfl | rfl | rfl : k = 1 ∨ k = 2 ∨ k = 3 := by omega
          all_goals (simp [numK, bitsI, l1]; try omega)
        · intro _; simp [lo2, hi2, l1]; omega
      · rw [e, if_neg a1, if_neg a2, if_neg a3]
        have l1 : leadI (240 + r / 262144) = 4 := by unfold leadI; omega
        refine ⟨by simpa using l1, by simp, by simp, by simp; omega, by simp; omega, ?_, ?_, ?_, ?_⟩
        · simp [numK, bitsI, l1]; omega
        · intro i i1 i2
          simp at i2
          obtain rfl | rfl | rfl : i = 1 ∨ i = 2 ∨ i = 3 := by omega
          all_goals simp; omega
        · intro k i1 i2
          simp at i2
          obtain rfl | rfl | rfl | rfl : k = 1 ∨ k = 2 ∨ k = 3 ∨ k = 4 := by omega
          all_goals (simp [numK, bitsI, l1]; try omega)
        · intro _; simp [lo2, hi2, l1]; omega
theorem numK_succ (xs : List Int) (k : Nat) (h : 1 ≤ k) : numK xs (k + 1) = numK xs k * 64 + xs.getD k 0 - 128 := by
  obtain ⟨j, rfl⟩ : ∃ j, k = j + 1 := ⟨k - 1, by omega⟩
  rfl
end Go.Proofs.Ytgdknabpdjohgaa
