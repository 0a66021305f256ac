/- The pieces of the reference are the pieces. Plain mathematics. -/
import Derived.Test.YtgoeacmpphmnoaaChkW
namespace Go.Proofs.Ytgoeacmpphmnoaa
open Go.RowKit Go.ChangeShapes Go.WideShapes
def cntA (at_ : List Int) (i : Nat) : Nat := at_.countP fun x => decide (x ≤ (i : Int))
def refN (b at_ : List Int) (k n : Nat) : List Int := ((List.range n).filter fun i => decide (cntA at_ i = k)).map fun i => b.getD i 0
def refB (b at_ : List Int) : List (List Int) := (List.range (at_.length + 1)).map fun k => refN b at_ k b.length
theorem refN_succ (b at_ : List Int) (k n : Nat) : refN b at_ k (n + 1) = refN b at_ k n ++ (if cntA at_ n = k then [b.getD n 0] else []) := by
  unfold refN
  rw [List.range_succ, List.filter_append, List.map_append]
  by_cases h : cntA at_ n = k
  · simp [h]
  · simp [h]
theorem refN_len (b at_ : List Int) (k n : Nat) : (refN b at_ k n).length ≤ n := by
  unfold refN
  rw [List.length_map]
  have := List.length_filter_le (fun i => decide (cntA at_ i = k)) (List.range n)
  simpa using this
theorem cnt_hi (S : List Int) (i : Int) (k : Nat) (h : ∀ j, k ≤ j → j < S.length → i < S.getD j 0) : S.countP (fun x => decide (x ≤ i)) ≤ k := by
  have e : S.countP (fun x => decide (x ≤ i)) = (S.take k).countP (fun x => decide (x ≤ i)) + (S.drop k).countP (fun x => decide (x ≤ i)) := by
    rw [← List.countP_append, List.take_append_drop]
  have h0 : (S.drop k).countP (fun x => decide (x ≤ i)) = 0 := by
    rw [List.countP_eq_zero]
    intro x hx
    obtain ⟨j, hj, rfl⟩ := List.getElem_of_mem hx
    have hj2 : k + j < S.length := by simp at hj; omega
    have := h (k + j) (by omega) hj2
    simp only [List.getD, List.getElem?_eq_getElem hj2, Option.getD_some] at this
    rw [List.getElem_drop]
    simp
    omega
  have h1 := List.countP_le_length (p := fun x => decide (x ≤ i)) (l := S.take k)
  have h2 : (S.take k).length ≤ k := List.length_take_le _ _
  omega
theorem cnt_lo (S : List Int) (i : Int) (k : Nat) (hk : k ≤ S.length) (h : ∀ j, j < k → S.getD j 0 ≤ i) : k ≤ S.countP (fun x => decide (x ≤ i)) := by
  have e : S.countP (fun x => decide (x ≤ i)) = (S.take k).countP (fun x => decide (x ≤ i)) + (S.drop k).countP (fun x => decide (x ≤ i)) := by
    rw [← List.countP_append, List.take_append_drop]
  have h0 : (S.take k).countP (fun x => decide (x ≤ i)) = (S.take k).length := by
    rw [List.countP_eq_length]
    intro x hx
    obtain ⟨j, hj, rfl⟩ := List.getElem_of_mem hx
    have hj2 : j < k ∧ j < S.length := by simp at hj; omega
    have := h j hj2.1
    simp only [List.getD, List.getElem?_eq_getElem hj2.2, Option.getD_some] at this
    rw [List.getElem_take]
    simpa using this
  have h2 : (S.take k).length = k := by simp; omega
  omega
theorem cnt_clamp (n i : Nat) (hi : i < n) : ∀ at_ : List Int, (at_.map (clampI n)).countP (fun x => decide (x ≤ (i : Int))) = cntA at_ i
  | [] => rfl
  | x :: l => by
    have ih := cnt_clamp n i hi l
    unfold cntA at ih ⊢
    rw [List.map_cons, List.countP_cons, List.countP_cons, ih]
    have e : decide (clampI n x ≤ (i : Int)) = decide (x ≤ (i : Int)) := by
      unfold clampI
      by_cases h : x ≤ (i : Int)
      · rw [decide_eq_true h, decide_eq_true (by omega)]
      · rw [decide_eq_false h, decide_eq_false (by omega)]
    rw [e]
theorem cnt_iff (n : Nat) (at_ : List Int) (i k : Nat) (hi : i < n) (hk : k ≤ at_.length) : cntA at_ i = k ↔ prevI 0 (placesL n at_) k ≤ (i : Int) ∧ (i : Int) < (placesL n at_).getD k 0 := by
  have hS : ∃ S, S = isortL (at_.map (clampI n)) := ⟨_, rfl⟩
  obtain ⟨S, hS⟩ := hS
  have hl : S.length = at_.length := by rw [hS, isort_len]; simp
  have hP : placesL n at_ = S ++ [(n : Int)] := by rw [hS]; rfl
  have hup : S.Pairwise (· ≤ ·) := by
    have := places_up n at_
    rw [hP, List.pairwise_append] at this
    exact this.1
  have hmono : ∀ a c, a ≤ c → c < S.length → S.getD a 0 ≤ S.getD c 0 := by
    intro a c hac hc
    rcases Nat.eq_or_lt_of_le hac with rfl | h
    · exact Int.le_refl _
    · have := (List.pairwise_iff_getElem.1 hup) a c (by omega) hc h
      simpa only [List.getD, List.getElem?_eq_getElem hc, List.getElem?_eq_getElem (show a < S.length by omega), Option.getD_some] using this
  have hcnt : cntA at_ i = S.countP fun x => decide (x ≤ (i : Int)) := by
    rw [← cnt_clamp n i hi at_, hS]
    exact ((List.mergeSort_perm _ _).countP_eq _).symm
  have hgl : ∀ j, j < S.length → (S ++ [(n : Int)]).getD j 0 = S.getD j 0 := fun j hj => by simp [List.getD, List.getElem?_append, hj]
  have hgn : (S ++ [(n : Int)]).getD S.length 0 = n := by simp [List.getD]
  rw [hcnt, hP]
  constructor
  · intro h
    refine ⟨?_, ?_⟩
    · unfold prevI
      by_cases h0 : k = 0
      · rw [if_pos h0]; omega
      · rw [if_neg h0, hgl (k - 1) (by omega)]
        refine Int.not_lt.1 fun hlt => ?_
        have := cnt_hi S i (k - 1) (fun j h1 h2 => by have := hmono (k - 1) j h1 h2; omega)
        omega
    · rcases Nat.lt_or_ge k S.length with h0 | h0
      · rw [hgl k h0]
        refine Int.not_le.1 fun hle => ?_
        have := cnt_lo S i (k + 1) (by omega) (fun j h1 => by have := hmono j k (by omega) h0; omega)
        omega
      · obtain rfl : k = S.length := by omega
        rw [hgn]; omega
  · rintro ⟨h1, h2⟩
    have ha := cnt_hi S i k (fun j h3 h4 => by
      have := hmono k j h3 h4
      rw [hgl k (by omega)] at h2
      omega)
    have hb := cnt_lo S i k (by omega) (fun j h3 => by
      unfold prevI at h1
      rw [if_neg (by omega), hgl (k - 1) (by omega)] at h1
      have := hmono j (k - 1) (by omega) (by omega)
      omega)
    omega
theorem range_piece (b : List Int) (f p : Nat) (hfp : f ≤ p) : ∀ n, n ≤ b.length → (((List.range n).filter fun i => decide (f ≤ i ∧ i < p)).map fun i => b.getD i 0) = ((b.take n).take p).drop f
  | 0, _ => by simp
  | n + 1, h => by
    have ih := range_piece b f p hfp n (by omega)
    rw [List.range_succ, List.filter_append, List.map_append, ih]
    have hg : b.take (n + 1) = b.take n ++ [b.getD n 0] := by
      rw [List.take_succ_eq_append_getElem (by omega)]; simp [List.getD, List.getElem?_eq_getElem (show n < b.length by omega)]
    have hln : (b.take n).length = n := by simp; omega
    by_cases h1 : n < f
    · rw [List.drop_eq_nil_of_le (by simp; omega), List.drop_eq_nil_of_le (by simp; omega)]
      have : ¬ (f ≤ n ∧ n < p) := by omega
      simp [this]
    · by_cases h2 : n < p
      · have : f ≤ n ∧ n < p := by omega
        have e1 : (b.take n).take p = b.take n := List.take_of_length_le (by omega)
        have e2 : (b.take n ++ [b.getD n 0]).take p = b.take n ++ [b.getD n 0] := List.take_of_length_le (by rw [List.length_append, hln]; simp; omega)
        rw [hg, e1, e2, List.drop_append_of_le_length (by omega)]
        simp [this]
      · have : ¬ (f ≤ n ∧ n < p) := by omega
        rw [hg, List.take_append_of_le_length (by omega)]
        simp [this]
theorem ref_piece (b at_ : List Int) (k : Nat) (hk : k ≤ at_.length) : refN b at_ k b.length = pieceI b (prevI 0 (placesL b.length at_) k) ((placesL b.length at_).getD k 0) := by
  obtain ⟨p0, p1, p2⟩ := places_at b.length at_ k (by rw [places_len]; omega)
  have hc := fun i hi => cnt_iff b.length at_ i k hi hk
  obtain ⟨f, hf⟩ : ∃ f, f = prevI 0 (placesL b.length at_) k := ⟨_, rfl⟩
  obtain ⟨p, hp⟩ : ∃ p, p = (placesL b.length at_).getD k 0 := ⟨_, rfl⟩
  rw [← hf, ← hp] at p1
  rw [← hf] at p0
  rw [← hp] at p2
  rw [← hf, ← hp]
  rw [← hf, ← hp] at hc
  obtain ⟨fN, rfl⟩ := Int.eq_ofNat_of_zero_le p0
  obtain ⟨pN, rfl⟩ := Int.eq_ofNat_of_zero_le (show 0 ≤ p by omega)
  have h1 := range_piece b fN pN (by omega) b.length (Nat.le_refl _)
  have h2 : (List.range b.length).filter (fun i => decide (cntA at_ i = k)) = (List.range b.length).filter fun i => decide (fN ≤ i ∧ i < pN) := by
    apply List.filter_congr
    intro i hi
    have := hc i (by simpa using hi)
    rw [decide_eq_decide, this]
    omega
  unfold refN
  rw [h2, h1, List.take_length]
  unfold pieceI
  simp only [Int.toNat_natCast]
  rw [List.drop_take]
theorem ref_cut (b at_ : List Int) : refB b at_ = cutB b at_ := by
  apply List.ext_getElem?
  intro k
  rcases Nat.lt_or_ge k (at_.length + 1) with h | h
  · have h1 : (refB b at_)[k]? = some (refN b at_ k b.length) := by unfold refB; rw [List.getElem?_map, List.getElem?_range h]; rfl
    have h2 := cutP_at b (placesL b.length at_) 0 k (by rw [places_len]; exact h)
    have h3 : k < (cutB b at_).length := by rw [cutB_len]; exact h
    rw [h1, List.getElem?_eq_getElem h3, ref_piece b at_ k (by omega), ← h2]
    show _ = some (cutB b at_)[k]
    have : (cutP b 0 (placesL b.length at_)).getD k [] = (cutB b at_)[k] := by
      show (cutB b at_).getD k [] = _
      simp [List.getD, List.getElem?_eq_getElem h3]
    rw [this]
  · rw [List.getElem?_eq_none (by unfold refB; simp; omega), List.getElem?_eq_none (by rw [cutB_len]; omega)]
end Go.Proofs.Ytgoeacmpphmnoaa
