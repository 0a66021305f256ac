/- The reference's Step of layer 3, by lists; what it tells is what the decoder tells. -/
import Derived.Test.YtgoeacmpphmnoaaBegM
import Derived.Test.YtgoeacmpphmnoaaUtfdecC
namespace Go.Proofs.Ytgoeacmpphmnoaa
open Go.RowKit Go.ChangeShapes Go.WideShapes
def whF (b : List Int) (v : Int) : Nat → Int
  | 0 => v
  | s + 1 => whF b v s * 64 + b.getD (s + 1) 0 - 128
def wholeV (b : List Int) : Int := whF b (b.getD 0 0 - mkN b.length) (b.length - 1)
def refE (x : Int) : List Int × List Int := if 1 < begB [x] then ([], [x]) else if 0 < begB [x] then ([wholeV [x]], []) else ([65533], [])
def refS (H : List Int) (x : Int) : List Int × List Int :=
  if H = [] then refE x else if ((H ++ [x]).length : Int) < begB (H ++ [x]) then ([], H ++ [x]) else if 0 < begB (H ++ [x]) then ([wholeV (H ++ [x])], []) else (65533 :: (refE x).1, (refE x).2)
/-- The row that is held, and the decoder's state. -/
inductive Rel : List Int → St → Prop
  | none : Rel [] (0, 0, 0)
  | one (l : Int) (h : 2 ≤ leadI l) (h0 : 0 ≤ l) (h1 : l ≤ 255) : Rel [l] (l, bitsI l, 1)
  | two (l y : Int) (h : 3 ≤ leadI l) (h0 : 0 ≤ l) (h1 : l ≤ 255) (hy0 : lo2 l ≤ y) (hy1 : y ≤ hi2 l) : Rel [l, y] (l, bitsI l * 64 + y % 64, 2)
  | three (l y z : Int) (h : 4 ≤ leadI l) (h0 : 0 ≤ l) (h1 : l ≤ 255) (hy0 : lo2 l ≤ y) (hy1 : y ≤ hi2 l) (hz0 : 128 ≤ z) (hz1 : z ≤ 191) : Rel [l, y, z] (l, (bitsI l * 64 + y % 64) * 64 + z % 64, 3)
theorem beg1 (x : Int) (x0 : 0 ≤ x) (x1 : x ≤ 255) : begB [x] = leadI x := by
  unfold begB
  simp only [p11 x x0, p12, p13, p14, List.length_cons, List.length_nil]
  rcases lead_cases x with ⟨h2, hs⟩ | ⟨h2, h3, hs⟩ | ⟨h2, h3, hs⟩ | ⟨h2, h3, hs⟩ | ⟨h2, h3, hs⟩ | ⟨h2, hs⟩ <;> rw [hs] <;> omega
theorem beg2 (l x : Int) (h : 2 ≤ leadI l) (h0 : 0 ≤ l) : begB [l, x] = if lo2 l ≤ x ∧ x ≤ hi2 l then leadI l else 0 := by
  unfold begB lo2 hi2
  simp only [p22, p23, p24, List.length_cons, List.length_nil]
  rcases lead_cases l with ⟨h2, hs⟩ | ⟨h2, h3, hs⟩ | ⟨h2, h3, hs⟩ | ⟨h2, h3, hs⟩ | ⟨h2, h3, hs⟩ | ⟨h2, hs⟩ <;> rw [hs] <;> rw [hs] at h <;> omega
theorem beg3 (l y x : Int) (h : 3 ≤ leadI l) (h0 : 0 ≤ l) (hy0 : lo2 l ≤ y) (hy1 : y ≤ hi2 l) : begB [l, y, x] = if 128 ≤ x ∧ x ≤ 191 then leadI l else 0 := by
  unfold begB
  unfold lo2 at hy0
  unfold hi2 at hy1
  simp only [p33, p34, List.length_cons, List.length_nil]
  rcases lead_cases l with ⟨h2, hs⟩ | ⟨h2, h3, hs⟩ | ⟨h2, h3, hs⟩ | ⟨h2, h3, hs⟩ | ⟨h2, h3, hs⟩ | ⟨h2, hs⟩ <;> rw [hs] <;> rw [hs] at h hy0 hy1 <;> omega
theorem beg4 (l y z x : Int) (h : 4 ≤ leadI l) (h0 : 0 ≤ l) (hy0 : lo2 l ≤ y) (hy1 : y ≤ hi2 l) (hz0 : 128 ≤ z) (hz1 : z ≤ 191) : begB [l, y, z, x] = if 128 ≤ x ∧ x ≤ 191 then leadI l else 0 := by
  unfold begB
  unfold lo2 at hy0
  unfold hi2 at hy1
  simp only [p44, List.length_cons, List.length_nil]
  rcases lead_cases l with ⟨h2, hs⟩ | ⟨h2, h3, hs⟩ | ⟨h2, h3, hs⟩ | ⟨h2, h3, hs⟩ | ⟨h2, h3, hs⟩ | ⟨h2, hs⟩ <;> rw [hs] <;> rw [hs] at h hy0 hy1 <;> omega
theorem rel_zero (x : Int) (x0 : 0 ≤ x) (x1 : x ≤ 255) : (refE x).1 = beginT x ∧ Rel (refE x).2 (beginL x, beginBt x, beginH x) := by
  unfold refE
  rw [beg1 x x0 x1]
  unfold beginT beginL beginBt beginH
  rcases lead_cases x with ⟨h2, hs⟩ | ⟨h2, h3, hs⟩ | ⟨h2, h3, hs⟩ | ⟨h2, h3, hs⟩ | ⟨h2, h3, hs⟩ | ⟨h2, hs⟩
  · simp [hs, wholeV, whF, mkN]; exact Rel.none
  · simp [hs]; exact Rel.none
  · simp [hs]; exact Rel.one x (by omega) x0 x1
  · simp [hs]; exact Rel.one x (by omega) x0 x1
  · simp [hs]; exact Rel.one x (by omega) x0 x1
  · simp [hs]; exact Rel.none
theorem lo_hi_in {l y : Int} (h : 2 ≤ leadI l) (h0 : lo2 l ≤ y) (h1 : y ≤ hi2 l) : 128 ≤ y ∧ y ≤ 191 := by
  unfold lo2 at h0
  unfold hi2 at h1
  omega
theorem lead_le (l : Int) : leadI l ≤ 4 := by unfold leadI; omega
theorem rel_step {H : List Int} {s : St} (hr : Rel H s) (x : Int) (x0 : 0 ≤ x) (x1 : x ≤ 255) : (refS H x).1 = stepTo s x ∧ Rel (refS H x).2 (stepSt s x) := by
  have hz := rel_zero x x0 x1
  cases hr with
  | none =>
    unfold refS stepTo stepSt tellT tellL tellBt tellH
    simpa using hz
  | one l h h0 h1 =>
    have hb := beg2 l x h h0
    have hle := lead_le l
    unfold refS stepTo stepSt tellT tellL tellBt tellH
    simp only [List.cons_append, List.nil_append, List.cons_ne_nil, if_false, hb, List.length_cons, List.length_nil]
    have hn : nextB l 1 x = (decide (lo2 l ≤ x) && decide (x ≤ hi2 l)) := by unfold nextB; simp
    by_cases hx : lo2 l ≤ x ∧ x ≤ hi2 l
    · have hn2 : nextB l 1 x = true := by rw [hn]; simp [hx.1, hx.2]
      obtain ⟨e0, e1⟩ := lo_hi_in h hx.1 hx.2
      rw [if_pos hx, hn2]
      by_cases h2 : leadI l = 2
      · rw [h2]
        simp [wholeV, whF, mkN]
        refine ⟨?_, Rel.none⟩
        unfold bitsI
        rw [h2]
        simp
        unfold leadI at h2
        omega
      · simp [show (2 : Int) < leadI l by omega]
        exact Rel.two l x (by omega) h0 h1 hx.1 hx.2
    · have hn2 : nextB l 1 x = false := by rw [hn]; by_cases hq : lo2 l ≤ x <;> simp [hq] <;> omega
      rw [if_neg hx, hn2]
      simp
      exact hz
  | two l y h h0 h1 hy0 hy1 =>
    have hb := beg3 l y x h h0 hy0 hy1
    have hle := lead_le l
    have hyy := lo_hi_in (by omega) hy0 hy1
    unfold refS stepTo stepSt tellT tellL tellBt tellH
    simp only [List.cons_append, List.nil_append, List.cons_ne_nil, if_false, hb, List.length_cons, List.length_nil]
    have hn : nextB l 2 x = tailB x := by unfold nextB; simp
    by_cases hx : 128 ≤ x ∧ x ≤ 191
    · have hn2 : nextB l 2 x = true := by rw [hn, tailB_true]; exact hx
      rw [if_pos hx, hn2]
      by_cases h2 : leadI l = 3
      · rw [h2]
        simp [wholeV, whF, mkN]
        refine ⟨?_, Rel.none⟩
        unfold bitsI
        rw [h2]
        simp
        unfold leadI at h2
        omega
      · simp [show (3 : Int) < leadI l by omega]
        exact Rel.three l y x (by omega) h0 h1 hy0 hy1 hx.1 hx.2
    · have hn2 : nextB l 2 x = false := by rw [hn]; cases ht : tailB x with | false => rfl | true => exact absurd (tailB_true.1 ht) hx
      rw [if_neg hx, hn2]
      simp
      exact hz
  | three l y z h h0 h1 hy0 hy1 hz0 hz1 =>
    have hb := beg4 l y z x h h0 hy0 hy1 hz0 hz1
    have hle := lead_le l
    have hyy := lo_hi_in (by omega) hy0 hy1
    unfold refS stepTo stepSt tellT tellL tellBt tellH
    simp only [List.cons_append, List.nil_append, List.cons_ne_nil, if_false, hb, List.length_cons, List.length_nil]
    have hn : nextB l 3 x = tailB x := by unfold nextB; simp
    have h2 : leadI l = 4 := by omega
    by_cases hx : 128 ≤ x ∧ x ≤ 191
    · have hn2 : nextB l 3 x = true := by rw [hn, tailB_true]; exact hx
      rw [if_pos hx, hn2, h2]
      simp [wholeV, whF, mkN]
      refine ⟨?_, Rel.none⟩
      unfold bitsI
      rw [h2]
      simp
      unfold leadI at h2
      omega
    · have hn2 : nextB l 3 x = false := by rw [hn]; cases ht : tailB x with | false => rfl | true => exact absurd (tailB_true.1 ht) hx
      rw [if_neg hx, hn2]
      simp
      exact hz
theorem rel_len {H : List Int} {s : St} (hr : Rel H s) : (H.length : Int) = s.2.2 ∧ H.length ≤ 3 := by cases hr <;> simp
theorem rel_bytes {H : List Int} {s : St} (hr : Rel H s) : ∀ i, i < H.length → 0 ≤ H.getD i 0 ∧ H.getD i 0 ≤ 255 := by
  intro i hi
  cases hr with
  | none => simp at hi
  | one l h h0 h1 => match i, hi with | 0, _ => exact ⟨h0, h1⟩
  | two l y h h0 h1 hy0 hy1 =>
    have := lo_hi_in (by omega) hy0 hy1
    match i, hi with
    | 0, _ => exact ⟨h0, h1⟩
    | 1, _ => show 0 ≤ y ∧ y ≤ 255; omega
  | three l y z h h0 h1 hy0 hy1 hz0 hz1 =>
    have := lo_hi_in (by omega) hy0 hy1
    match i, hi with
    | 0, _ => exact ⟨h0, h1⟩
    | 1, _ => show 0 ≤ y ∧ y ≤ 255; omega
    | 2, _ => show 0 ≤ z ∧ z ≤ 255; omega
end Go.Proofs.Ytgoeacmpphmnoaa
