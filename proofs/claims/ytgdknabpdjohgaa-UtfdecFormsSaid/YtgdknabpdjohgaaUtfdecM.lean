/- A decoder that goes through a form: plain mathematics. -/
import Derived.Test.YtgdknabpdjohgaaUtfdecC
import Derived.Test.YtgdknabpdjohgaaFormM
namespace Go.Proofs.Ytgdknabpdjohgaa
open Go.RowKit Go.ChangeShapes Go.WideShapes
/-- The state behind the first j bytes of a form xs. -/
def sOf (xs : List Int) (j : Nat) : St := if j = 0 ∨ j = xs.length then (0, 0, 0) else (xs.getD 0 0, numK xs j, (j : Int))
theorem sOf_zero (xs : List Int) : sOf xs 0 = (0, 0, 0) := by unfold sOf; rw [if_pos (.inl rfl)]
theorem sOf_end (xs : List Int) : sOf xs xs.length = (0, 0, 0) := by unfold sOf; rw [if_pos (.inr rfl)]
theorem form_step (r : Int) (hv : validB r = true) (j : Nat) (hj : j < (formL r).length) :
    stepTo (sOf (formL r) j) ((formL r).getD j 0) = (if j + 1 = (formL r).length then [r] else []) ∧ stepSt (sOf (formL r) j) ((formL r).getD j 0) = sOf (formL r) (j + 1) := by
  obtain ⟨f1, f2, f3, f4, f5, f6, f7, f8, f9⟩ := form_facts r hv
  generalize formL r = xs at *
  by_cases h0 : j = 0
  · subst h0
    rw [sOf_zero]
    by_cases h1 : xs.length = 1
    · rw [h1] at f1 f6 ⊢
      have e : sOf xs (0 + 1) = (0, 0, 0) := by rw [← sOf_end xs, h1]
      rw [e]
      have f1' : leadI (xs.getD 0 0) = 1 := by omega
      have f6' : bitsI (xs.getD 0 0) = r := f6
      have fb : bitsI (xs.getD 0 0) = xs.getD 0 0 := by unfold bitsI; rw [if_pos f1']
      generalize xs.getD 0 0 = x at *
      simp [stepTo, stepSt, tellT, tellL, tellBt, tellH, beginT, beginL, beginBt, beginH, f1', ← f6', fb]
    · have e : sOf xs (0 + 1) = (xs.getD 0 0, numK xs 1, 1) := by unfold sOf; rw [if_neg (by omega)]; rfl
      rw [e, if_neg (by omega)]
      have hl : 2 ≤ leadI (xs.getD 0 0) := by omega
      have en : numK xs 1 = bitsI (xs.getD 0 0) := rfl
      rw [en]
      generalize xs.getD 0 0 = x at *
      have n0 : ¬ leadI x = 0 := by omega
      have n1 : ¬ leadI x = 1 := by omega
      simp [stepTo, stepSt, tellT, tellL, tellBt, tellH, beginT, beginL, beginBt, beginH, n0, n1, hl]
  · have hs : sOf xs j = (xs.getD 0 0, numK xs j, (j : Int)) := by unfold sOf; rw [if_neg (by omega)]
    have hn : nextB (xs.getD 0 0) (j : Int) (xs.getD j 0) = true := by
      unfold nextB
      by_cases h1 : j = 1
      · subst h1
        obtain ⟨g1, g2⟩ := f9 hj
        rw [if_neg (by decide)]
        simp only [Bool.and_eq_true, decide_eq_true_eq]
        exact ⟨g1, g2⟩
      · obtain ⟨g1, g2⟩ := f7 j (by omega) hj
        rw [if_pos (by omega)]
        exact tailB_true.2 ⟨g1, g2⟩
    have hb : numK xs j * 64 + xs.getD j 0 % 64 = numK xs (j + 1) := by
      obtain ⟨g1, g2⟩ := f7 j (by omega) hj
      rw [numK_succ xs j (by omega)]
      omega
    have hne : ¬ (j : Int) = 0 := by omega
    rw [hs]
    unfold stepTo stepSt tellT tellL tellBt tellH
    simp only [if_neg hne, if_pos hn]
    rw [hb]
    by_cases h2 : j + 1 = xs.length
    · have hq : ¬ (j : Int) + 1 < leadI (xs.getD 0 0) := by omega
      simp only [if_neg hq, if_pos h2]
      rw [h2, sOf_end, f6]
      exact ⟨rfl, rfl⟩
    · have hq : (j : Int) + 1 < leadI (xs.getD 0 0) := by omega
      simp only [if_pos hq, if_neg h2]
      refine ⟨trivial, ?_⟩
      unfold sOf
      rw [if_neg (by omega)]
      simp
end Go.Proofs.Ytgdknabpdjohgaa
