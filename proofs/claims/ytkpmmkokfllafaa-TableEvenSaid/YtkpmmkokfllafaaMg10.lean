/- Texts put together: TblD, TblX, TblY, TblZ. -/
import Derived.Test.YtkpmmkokfllafaaTblB
import Derived.Test.YtkpmmkokfllafaaTblC
import Derived.Test.YtkpmmkokfllafaaMg9
/- The reference's Line (60). -/
namespace Go.Proofs.Ytkpmmkokfllafaa
open Go.RowKit Go.ChangeShapes Go.WideShapes
attribute [local go_sem] Oper.semAt_some
def gkC (gap : Int) (k : Nat) : Nat := if k = 0 then 0 else (gapC gap).toNat
theorem blC_eq (gap : Int) (k : Nat) : blC gap k = List.replicate (gkC gap k) 32 := by
  unfold blC gkC
  by_cases h : k = 0
  · rw [if_pos h, if_pos h]; rfl
  · rw [if_neg h, if_neg h]
    have h1 := ahead_le 0 (lackC (gapC gap) [])
    have h2 : lackC (gapC gap) [] = (gapC gap).toNat := by
      unfold lackC wc gapC
      rw [show colsC [] = 0 from by decide +kernel]
      omega
    rw [← h2]
    unfold padC
    rw [List.nil_append, List.replicate_append_replicate]
    congr 1
    omega
theorem gk_bd (gap : Int) (k : Nat) : gkC gap k ≤ 1024 := by
  unfold gkC gapC
  split <;> omega
end Go.Proofs.Ytkpmmkokfllafaa
/- A plain text that is fit is as wide as it is asked to; so is a whole line. Of no program's code. -/
namespace Go.Proofs.Ytkpmmkokfllafaa
open Go.RowKit Go.ChangeShapes Go.WideShapes
theorem rb_at9 (xs : List Int) (W : Int) (hW : 0 ≤ W) : ∀ i, i ≤ (clS xs).length + 1 → ∃ k, k ≤ (clS xs).length ∧ (rb xs W i).1 = (endC xs k : Int) ∧ cumW xs k ≤ W
  | 0, _ => ⟨0, Nat.zero_le _, by rw [endC_zero]; rfl, by rw [cumW_zero]; exact hW⟩
  | i + 1, hi => by
    rw [show rb xs W (i + 1) = if cumW xs i ≤ W then ((endC xs i : Int), cumW xs i) else rb xs W i from rfl]
    by_cases h : cumW xs i ≤ W
    · rw [if_pos h]
      exact ⟨i, by omega, rfl, h⟩
    · rw [if_neg h]
      exact rb_at9 xs W hW i (by omega)
theorem cut_cols9 (W : Int) (xs : List Int) : colsC (cutC W xs) ≤ wc W := by
  have h0 := wc_bd W
  obtain ⟨k, h1, h2, h3⟩ := rb_at9 xs (wc W) h0.1 _ (Nat.le_refl _)
  unfold cutC rbC
  rw [if_neg (by omega), h2, Int.toNat_natCast, cols_take xs k h1]
  exact h3
theorem fit_plain {xs : List Int} (h : plainB xs = true) (W side : Int) : colsC (fitC W side xs []) = wc W ∧ OpensT (fitC W side xs []) ∧ EndsT (fitC W side xs []) := by
  have hw := wc_bd W
  have hww : wc (wc W) = wc W := by unfold wc; omega
  have key : ∀ ys : List Int, plainB ys = true → colsC ys ≤ wc W → colsC (padC (wc W) side ys) = wc W ∧ OpensT (padC (wc W) side ys) ∧ EndsT (padC (wc W) side ys) := fun ys hp hc => by
    obtain ⟨h1, h2, h3⟩ := pad_cols hp (wc W) side
    refine ⟨?_, h2, h3⟩
    rw [h1]
    unfold lackC
    rw [hww]
    omega
  unfold fitC
  by_cases h1 : colsC xs ≤ wc W
  · rw [if_pos h1]
    exact key xs h h1
  · rw [if_neg h1, cols_nil, if_neg (by omega), List.append_nil, Int.sub_zero]
    refine key _ (by unfold cutC; exact plain_take h _) ?_
    have := cut_cols9 (wc W) xs
    rw [hww] at this
    exact this
end Go.Proofs.Ytkpmmkokfllafaa
/- A line of plain texts is as wide as its columns and the gaps between. Of no program's code. -/
namespace Go.Proofs.Ytkpmmkokfllafaa
open Go.RowKit Go.ChangeShapes Go.WideShapes
/-- The widths of the first k columns and the gaps between. -/
def lineW (rows : List (List (List Int))) (cols : List (Int × Int)) (gap : Int) : Nat → Int
  | 0 => 0
  | k + 1 => lineW rows cols gap k + (if k = 0 then 0 else gap) + widC rows k (cols.getD k (0, 0)).1
theorem wid_bd (rows : List (List (List Int))) (k : Nat) (most : Int) (ht : ∀ i, (atC rows i k).length ≤ 1000) : 0 ≤ widC rows k most ∧ widC rows k most ≤ 1024 := by
  have h := maxW_bd rows k ht rows.length
  unfold widC mostW
  split <;> omega
theorem line_cols (rows : List (List (List Int))) (cols : List (Int × Int)) (gap : Int) (i : Nat) (hg : 1 ≤ gap ∧ gap ≤ 20) (hp : ∀ k, plainB (atC rows i k) = true) (ht : ∀ i k, (atC rows i k).length ≤ 1000) : ∀ k, colsC (lineC rows cols gap i k) = lineW rows cols gap k ∧ OpensT (lineC rows cols gap i k) ∧ EndsT (lineC rows cols gap i k)
  | 0 => ⟨cols_nil, .inl rfl, fun h => absurd h (by simp [lineC])⟩
  | k + 1 => by
    obtain ⟨h1, h2, h3⟩ := line_cols rows cols gap i hg hp ht k
    obtain ⟨f1, f2, f3⟩ := fit_plain (hp k) (widC rows k (cols.getD k (0, 0)).1) (cols.getD k (0, 0)).2
    have hwb := wid_bd rows k (cols.getD k (0, 0)).1 (fun i => ht i k)
    have hwc : wc (widC rows k (cols.getD k (0, 0)).1) = widC rows k (cols.getD k (0, 0)).1 := by unfold wc; omega
    rw [hwc] at f1
    have e : lineC rows cols gap i (k + 1) = lineC rows cols gap i k ++ (blC gap k ++ fitK rows cols i k) := List.append_assoc ..
    have e2 : lineW rows cols gap (k + 1) = lineW rows cols gap k + (if k = 0 then 0 else gap) + widC rows k (cols.getD k (0, 0)).1 := rfl
    have f1 : colsC (fitK rows cols i k) = widC rows k (cols.getD k (0, 0)).1 := f1
    have f2 : OpensT (fitK rows cols i k) := f2
    have f3 : EndsT (fitK rows cols i k) := f3
    rw [e, e2, blC_eq]
    refine ⟨?_, opens_app h2 (opens_app (opens_blanks _) f2), ends_app h3 (ends_app (ends_blanks _) f3)⟩
    by_cases hk : k = 0
    · subst hk
      rw [if_pos rfl, show gkC gap 0 = 0 from rfl, List.replicate_zero, List.nil_append, show lineC rows cols gap i 0 = [] from rfl, List.nil_append, f1, show lineW rows cols gap 0 = 0 from rfl]
      omega
    · have hgk : (gkC gap k : Int) = gap ∧ 1 ≤ gkC gap k := by unfold gkC gapC; rw [if_neg hk]; omega
      obtain ⟨m, hm⟩ : ∃ m, gkC gap k = m + 1 := ⟨gkC gap k - 1, by omega⟩
      rw [if_neg hk, hm, cols_mid h3 f2 m, h1, f1]
      omega
end Go.Proofs.Ytkpmmkokfllafaa
/- The sum of a table's widths and gaps. Of no program's code. -/
namespace Go.Proofs.Ytkpmmkokfllafaa
open Go.RowKit Go.ChangeShapes Go.WideShapes
def sumWd (rows : List (List (List Int))) (cols : List (Int × Int)) : Nat → Int
  | 0 => 0
  | k + 1 => sumWd rows cols k + widC rows k (cols.getD k (0, 0)).1
theorem sumWd_bd (rows : List (List (List Int))) (cols : List (Int × Int)) (ht : ∀ i k, (atC rows i k).length ≤ 1000) : ∀ k : Nat, 0 ≤ sumWd rows cols k ∧ sumWd rows cols k ≤ 1024 * k
  | 0 => ⟨Int.le_refl _, by unfold sumWd; omega⟩
  | k + 1 => by
    have h := sumWd_bd rows cols ht k
    have h2 := wid_bd rows k (cols.getD k (0, 0)).1 (fun i => ht i k)
    rw [sumWd]
    omega
theorem lineW_sum (rows : List (List (List Int))) (cols : List (Int × Int)) (gap : Int) : ∀ k : Nat, lineW rows cols gap (k + 1) = gap * (k : Int) + sumWd rows cols (k + 1)
  | 0 => by simp [lineW, sumWd]
  | k + 1 => by
    have h := lineW_sum rows cols gap k
    have e : sumWd rows cols (k + 1 + 1) = sumWd rows cols (k + 1) + widC rows (k + 1) (cols.getD (k + 1) (0, 0)).1 := rfl
    have e2 : lineW rows cols gap (k + 1 + 1) = lineW rows cols gap (k + 1) + (if k + 1 = 0 then 0 else gap) + widC rows (k + 1) (cols.getD (k + 1) (0, 0)).1 := rfl
    rw [e2, h, e, if_neg (by omega), show ((k + 1 : Nat) : Int) = (k : Int) + 1 from by omega, Int.mul_add, Int.mul_one]
    omega
end Go.Proofs.Ytkpmmkokfllafaa
