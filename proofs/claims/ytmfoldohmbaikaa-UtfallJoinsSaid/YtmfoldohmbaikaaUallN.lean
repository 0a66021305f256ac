/- Rows of forms, and forms behind other bytes: their parts. -/
import Derived.Test.YtmfoldohmbaikaaUallR
import Derived.Test.YtmfoldohmbaikaaUallM
import Derived.Test.YtmfoldohmbaikaaUallT
namespace Go.Proofs.Ytmfoldohmbaikaa
open Go.RowKit Go.ChangeShapes Go.WideShapes
theorem formL_inj {x r : Int} (hv : validB r = true) (h : formL x = formL r) : x = r := by
  have hr := validB_true.1 hv
  have hx : validB x = true := by
    cases hq : validB x with
    | true => rfl
    | false =>
      exfalso
      unfold formL at h
      rw [hq, hv] at h
      simp at h
      split at h <;> (try split at h) <;> (try split at h) <;> simp at h
  have hx' := validB_true.1 hx
  unfold formL at h
  rw [hx, hv] at h
  simp only [Bool.true_eq_false, if_false] at h
  by_cases a1 : x < 128
  · rw [if_pos a1] at h
    by_cases b1 : r < 128
    · rw [if_pos b1] at h; simpa using h
    · rw [if_neg b1] at h
      split at h <;> (try split at h) <;> simp at h
  · rw [if_neg a1] at h
    by_cases a2 : x < 2048
    · rw [if_pos a2] at h
      by_cases b1 : r < 128
      · rw [if_pos b1] at h; simp at h
      · rw [if_neg b1] at h
        by_cases b2 : r < 2048
        · rw [if_pos b2] at h; simp at h; omega
        · rw [if_neg b2] at h
          split at h <;> simp at h
    · rw [if_neg a2] at h
      by_cases a3 : x < 65536
      · rw [if_pos a3] at h
        by_cases b1 : r < 128
        · rw [if_pos b1] at h; simp at h
        · rw [if_neg b1] at h
          by_cases b2 : r < 2048
          · rw [if_pos b2] at h; simp at h
          · rw [if_neg b2] at h
            by_cases b3 : r < 65536
            · rw [if_pos b3] at h; simp at h; omega
            · rw [if_neg b3] at h; simp at h
      · rw [if_neg a3] at h
        by_cases b1 : r < 128
        · rw [if_pos b1] at h; simp at h
        · rw [if_neg b1] at h
          by_cases b2 : r < 2048
          · rw [if_pos b2] at h; simp at h
          · rw [if_neg b2] at h
            by_cases b3 : r < 65536
            · rw [if_pos b3] at h; simp at h
            · rw [if_neg b3] at h; simp at h; omega
theorem goF_full (ys : List Int) (n : Nat) : ∀ (f m : Nat), m ≤ n → n - m ≤ f → (∀ j, m ≤ j → j < n → j < ys.length ∧ okB ys j = true) → goF ys n f m = n
  | 0, m, h1, h2, _ => by show m = n; omega
  | f + 1, m, h1, h2, h3 => by
    unfold goF
    by_cases h : m < n
    · obtain ⟨h4, h5⟩ := h3 m (Nat.le_refl _) h
      rw [if_pos ⟨by omega, h4, h5⟩]
      exact goF_full ys n f (m + 1) (by omega) (by omega) fun j hj => h3 j (by omega)
    · rw [if_neg (by omega)]
      omega
/-- What a form begins with. -/
theorem form_beg (r : Int) (hv : validB r = true) (zs : List Int) : leadI ((formL r ++ zs).getD 0 0) = (formL r).length ∧ 1 ≤ (formL r).length ∧ (formL r).length ≤ 4 ∧
    ∀ j, 1 ≤ j → j < (formL r).length → okB (formL r ++ zs) j = true := by
  have hr := validB_true.1 hv
  unfold formL
  rw [hv]
  simp only [Bool.true_eq_false, if_false]
  by_cases a1 : r < 128
  · simp only [if_pos a1]
    refine ⟨?_, by simp, by simp, fun j h1 h2 => by simp at h2; omega⟩
    simp [leadI]; omega
  · simp only [if_neg a1]
    by_cases a2 : r < 2048
    · simp only [if_pos a2]
      refine ⟨?_, by simp, by simp, fun j h1 h2 => ?_⟩
      · show leadI (192 + r / 64) = ((2 : Nat) : Int)
        unfold leadI; omega
      · obtain rfl : j = 1 := by simp at h2; omega
        have hl : leadI (192 + r / 64) = 2 := by unfold leadI; omega
        unfold okB tailB lo2 hi2
        simp [hl]; omega
    · simp only [if_neg a2]
      by_cases a3 : r < 65536
      · simp only [if_pos a3]
        refine ⟨?_, by simp, by simp, fun j h1 h2 => ?_⟩
        · show leadI (224 + r / 4096) = ((3 : Nat) : Int)
          unfold leadI; omega
        · have hl : leadI (224 + r / 4096) = 3 := by unfold leadI; omega
          rcases (by simp at h2; omega : j = 1 ∨ j = 2) with rfl | rfl
          · unfold okB tailB lo2 hi2
            simp [hl]; omega
          · unfold okB tailB lo2 hi2
            simp [hl]; omega
      · simp only [if_neg a3]
        refine ⟨?_, by simp, by simp, fun j h1 h2 => ?_⟩
        · show leadI (240 + r / 262144) = ((4 : Nat) : Int)
          unfold leadI; omega
        · have hl : leadI (240 + r / 262144) = 4 := by unfold leadI; omega
          rcases (by simp at h2; omega : j = 1 ∨ j = 2 ∨ j = 3) with rfl | rfl | rfl
          · unfold okB tailB lo2 hi2
            simp [hl]; omega
          · unfold okB tailB lo2 hi2
            simp [hl]; omega
          · unfold okB tailB lo2 hi2
            simp [hl]; omega
theorem form_pos (r : Int) (hv : validB r = true) (zs : List Int) : 0 ≤ (formL r ++ zs).getD 0 0 := by
  have hr := validB_true.1 hv
  unfold formL
  rw [hv]
  simp only [Bool.true_eq_false, if_false]
  split
  · simp; omega
  · split
    · simp; omega
    · split
      · simp; omega
      · simp; omega
/-- The part that is a form. -/
theorem part_form (xs : List Int) (p : Nat) (r : Int) (zs : List Int) (hv : validB r = true) (h : xs.drop p = formL r ++ zs) : lenG xs p = (formL r).length ∧ (partG xs p).1 = r ∧ (partG xs p).2.2.2.2 = false := by
  obtain ⟨h1, h2, h3, h4⟩ := form_beg r hv zs
  have hd0 : xs.getD p 0 = (formL r ++ zs).getD 0 0 := by rw [← h]; simp [List.getD]
  have hb : begN (formL r ++ zs) ((formL r).length : Nat) = (formL r).length := goF_full _ _ 4 1 h2 (by omega) fun j k1 k2 => ⟨by simp; omega, h4 j k1 k2⟩
  have hz : ¬ leadI (xs.getD p 0) = 0 := by rw [hd0, h1]; omega
  have hlen : begN (xs.drop p) (leadI (xs.getD p 0)) = (formL r).length := by rw [h, hd0, h1]; exact hb
  have hq : (begN (xs.drop p) (leadI (xs.getD p 0)) : Int) = leadI (xs.getD p 0) := by rw [hlen, hd0, h1]
  refine ⟨by unfold lenG; rw [if_neg hz]; exact hlen, ?_, by unfold partG; rw [if_neg hz, if_pos hq]⟩
  unfold partG
  rw [if_neg hz, if_pos hq, hlen]
  show valF ((xs.drop p).take (formL r).length) ((formL r).length - 1) = r
  have hf := form_of (formL r ++ zs) (formL r).length (by rw [h1]; exact hb) h1.symm (by simp; omega) (form_pos r hv zs)
  rw [h]
  refine formL_inj hv (hf.trans ?_)
  rw [List.take_left]
theorem forms_seq : ∀ (a pre : List Int) (xs : List Int) (K : Nat), (∀ x ∈ a, validB x = true) → xs = pre ++ a.flatMap formL → posN xs K = pre.length →
    posN xs (K + a.length) = xs.length ∧ valsN xs (K + a.length) = valsN xs K ++ a ∧ anyBad xs (K + a.length) = anyBad xs K
  | [], pre, xs, K, _, hx, hp => by simp at hx; subst hx; simp [hp]
  | r :: a, pre, xs, K, hv, hx, hp => by
    have hr := hv r (by simp)
    have hd : xs.drop pre.length = formL r ++ a.flatMap formL := by rw [hx]; simp
    obtain ⟨h1, h2, h3⟩ := part_form xs pre.length r _ hr hd
    have hp1 : posN xs (K + 1) = (pre ++ formL r).length := by
      show posN xs K + lenG xs (posN xs K) = _
      rw [hp, h1]; simp
    obtain ⟨i1, i2, i3⟩ := forms_seq a (pre ++ formL r) xs (K + 1) (fun x hx => hv x (by simp [hx])) (by rw [hx]; simp) hp1
    rw [show K + (r :: a).length = K + 1 + a.length by simp; omega]
    refine ⟨i1, ?_, ?_⟩
    · rw [i2, vals_snoc, hp, h2]; simp
    · rw [i3, anyBad_snoc, hp, h3]; simp
theorem okB_app {ys zs : List Int} {m : Nat} (h0 : 0 < ys.length) (h : m < ys.length) : okB (ys ++ zs) m = okB ys m := by
  unfold okB
  have e0 : (ys ++ zs).getD 0 0 = ys.getD 0 0 := by simp [List.getD, List.getElem?_append_left h0]
  have em : (ys ++ zs).getD m 0 = ys.getD m 0 := by simp [List.getD, List.getElem?_append_left h]
  rw [e0, em]
theorem goF_app (ys zs : List Int) (lead : Int) (h0 : 0 < ys.length) : ∀ (f m : Nat), m ≤ ys.length → (goF ys lead f m < ys.length ∨ lead ≤ goF ys lead f m) → goF (ys ++ zs) lead f m = goF ys lead f m
  | 0, _, _, _ => rfl
  | f + 1, m, hm, h => by
    by_cases h1 : m < ys.length
    · by_cases h2 : (m : Int) < lead ∧ m < ys.length ∧ okB ys m = true
      · have e1 : goF ys lead (f + 1) m = goF ys lead f (m + 1) := by rw [goF, if_pos h2]
        have e2 : goF (ys ++ zs) lead (f + 1) m = goF (ys ++ zs) lead f (m + 1) := by rw [goF, if_pos ⟨h2.1, by simp; omega, by rw [okB_app h0 h1]; exact h2.2.2⟩]
        rw [e1] at h ⊢
        rw [e2]
        exact goF_app ys zs lead h0 f (m + 1) (by omega) h
      · rw [goF_stop ys lead _ m h2, goF_stop (ys ++ zs) lead _ m (fun hh => h2 ⟨hh.1, h1, by rw [← okB_app h0 h1]; exact hh.2.2⟩)]
    · have e1 : goF ys lead (f + 1) m = m := goF_stop ys lead _ m (fun hh => h1 hh.2.1)
      rw [e1] at h
      rw [e1, goF_stop (ys ++ zs) lead _ m (fun hh => by omega)]
/-- A part that ends by itself is that with more bytes behind, too. -/
theorem part_app (xs zs : List Int) (p : Nat) (hp : p < xs.length) (h : leadI (xs.getD p 0) = 0 ∨ p + begN (xs.drop p) (leadI (xs.getD p 0)) < xs.length ∨ leadI (xs.getD p 0) ≤ begN (xs.drop p) (leadI (xs.getD p 0))) :
    lenG (xs ++ zs) p = lenG xs p ∧ (partG (xs ++ zs) p).1 = (partG xs p).1 := by
  have hd : (xs ++ zs).drop p = xs.drop p ++ zs := by rw [List.drop_append_of_le_length (by omega)]
  have hg : (xs ++ zs).getD p 0 = xs.getD p 0 := by simp [List.getD, List.getElem?_append_left hp]
  unfold lenG partG
  rw [hd, hg]
  by_cases hz : leadI (xs.getD p 0) = 0
  · rw [if_pos hz, if_pos hz, if_pos hz, if_pos hz]
    exact ⟨rfl, rfl⟩
  · simp only [if_neg hz]
    have hb : begN (xs.drop p ++ zs) (leadI (xs.getD p 0)) = begN (xs.drop p) (leadI (xs.getD p 0)) := by
      refine goF_app (xs.drop p) zs _ (by simp; omega) 4 1 (by simp; omega) ?_
      rcases h with h | h | h
      · exact absurd h hz
      · exact .inl (by rw [List.length_drop]; show begN _ _ < _; omega)
      · exact .inr h
    rw [hb]
    refine ⟨rfl, ?_⟩
    by_cases hq : (begN (xs.drop p) (leadI (xs.getD p 0)) : Int) = leadI (xs.getD p 0)
    · simp only [if_pos hq]
      rw [List.take_append_of_le_length]
      exact (begN_le (xs.drop p) _ (by simp; omega)).2.1
    · simp only [if_neg hq]
theorem tail_open (xs : List Int) (K : Nat) (hK : posN xs K = xs.length) (ht : tailG xs K ≤ 0) (k : Nat) (hk : k < K) :
    leadI (xs.getD (posN xs k) 0) = 0 ∨ posN xs k + begN (xs.drop (posN xs k)) (leadI (xs.getD (posN xs k) 0)) < xs.length ∨ leadI (xs.getD (posN xs k) 0) ≤ begN (xs.drop (posN xs k)) (leadI (xs.getD (posN xs k) 0)) := by
  by_cases hz : leadI (xs.getD (posN xs k) 0) = 0
  · exact .inl hz
  · have hl : lenG xs (posN xs k) = begN (xs.drop (posN xs k)) (leadI (xs.getD (posN xs k) 0)) := by unfold lenG; rw [if_neg hz]
    have hnx : posN xs (k + 1) = posN xs k + lenG xs (posN xs k) := rfl
    by_cases hlast : k + 1 < K
    · refine .inr (.inl ?_)
      have := posN_lt xs hlast
      omega
    · have hKk : K = k + 1 := by omega
      subst hKk
      refine .inr (.inr ?_)
      by_cases hq : leadI (xs.getD (posN xs k) 0) ≤ begN (xs.drop (posN xs k)) (leadI (xs.getD (posN xs k) 0))
      · exact hq
      · exfalso
        have hp := lenG_pos xs (posN xs k)
        have hpl := partG_len xs (posN xs k)
        have hb : (partG xs (posN xs k)).2.2.2.2 = true := by
          unfold partG
          rw [if_neg hz, if_neg (by omega)]
        have hlg : lastG xs (k + 1) = partG xs (posN xs k) := by unfold lastG; rw [if_neg (by omega)]; rfl
        unfold tailG at ht
        rw [hlg, show k + 1 - 1 = k from rfl, if_pos ⟨hb, by omega⟩, hpl] at ht
        omega
theorem parts_app (xs zs : List Int) (K : Nat) (hK : posN xs K = xs.length) (ht : tailG xs K ≤ 0) : ∀ k, k ≤ K → posN (xs ++ zs) k = posN xs k ∧ valsN (xs ++ zs) k = valsN xs k
  | 0, _ => ⟨rfl, rfl⟩
  | k + 1, h => by
    obtain ⟨i1, i2⟩ := parts_app xs zs K hK ht k (by omega)
    have hlt : posN xs k < xs.length := by have := posN_lt xs (show k < K by omega); omega
    obtain ⟨p1, p2⟩ := part_app xs zs (posN xs k) hlt (tail_open xs K hK ht k (by omega))
    refine ⟨?_, ?_⟩
    · show posN (xs ++ zs) k + lenG (xs ++ zs) (posN (xs ++ zs) k) = posN xs k + lenG xs (posN xs k)
      rw [i1, p1]
    · rw [vals_snoc, vals_snoc, i1, i2, p2]
/-- Bytes that end with no form begun, and forms behind them. -/
theorem joins_vals (b a : List Int) (K : Nat) (hK : posN b K = b.length) (ht : tailG b K ≤ 0) (hv : ∀ x ∈ a, validB x = true) :
    posN (b ++ a.flatMap formL) (K + a.length) = (b ++ a.flatMap formL).length ∧ valsN (b ++ a.flatMap formL) (K + a.length) = valsN b K ++ a := by
  obtain ⟨h1, h2⟩ := parts_app b (a.flatMap formL) K hK ht K (Nat.le_refl _)
  obtain ⟨i1, i2, _⟩ := forms_seq a b _ K hv rfl (h1.trans hK)
  exact ⟨i1, by rw [i2, h2]⟩
theorem forms_vals (a : List Int) (hv : ∀ x ∈ a, validB x = true) : posN (a.flatMap formL) a.length = (a.flatMap formL).length ∧ valsN (a.flatMap formL) a.length = a ∧ anyBad (a.flatMap formL) a.length = false := by
  obtain ⟨i1, i2, i3⟩ := forms_seq a [] (a.flatMap formL) 0 hv rfl rfl
  rw [Nat.zero_add] at i1 i2 i3
  exact ⟨i1, by rw [i2]; rfl, by rw [i3]; rfl⟩
theorem forms_len (a : List Int) : (a.flatMap formL).length ≤ 4 * a.length := by
  induction a with
  | nil => simp
  | cons x a ih => have := formL_len x; simp only [List.flatMap_cons, List.length_append, List.length_cons]; omega
theorem forms_byte (a : List Int) : ∀ x ∈ a.flatMap formL, 0 ≤ x ∧ x ≤ 255 := by
  intro x hx
  obtain ⟨r, _, h⟩ := List.mem_flatMap.1 hx
  unfold formL at h
  by_cases hv : validB r = false
  · rw [if_pos hv] at h; simp at h
  · have hr := validB_true.1 (by simpa using hv : validB r = true)
    rw [if_neg hv] at h
    split at h
    · simp at h; omega
    · split at h
      · simp at h; omega
      · split at h
        · simp at h; omega
        · simp at h; omega
end Go.Proofs.Ytmfoldohmbaikaa
