/- What the sum of spans is. Of no walk. -/
import Derived.Test.YtmfoldohmbaikaaSpanP
import Derived.Test.YtmfoldohmbaikaaSpanW
namespace Go.Proofs.Ytmfoldohmbaikaa
open Go.RowKit Go.ChangeShapes Go.WideShapes
theorem snoc_ind {p : List Sp → Prop} (h0 : p []) (h1 : ∀ U s, p U → p (U ++ [s])) : ∀ T, p T := by
  intro T
  rw [← List.reverse_reverse T]
  induction T.reverse with
  | nil => exact h0
  | cons s R ih => rw [List.reverse_cons]; exact h1 _ _ ih
def sumT : List Tn → Int → Int
  | [], _ => 0
  | t :: L, x => (if t.1 ≤ x then t.2 else 0) + sumT L x
theorem sumT_app (x : Int) (V : List Tn) : ∀ U, sumT (U ++ V) x = sumT U x + sumT V x
  | [] => by simp [sumT]
  | t :: U => by
    show (if t.1 ≤ x then t.2 else 0) + sumT (U ++ V) x = (if t.1 ≤ x then t.2 else 0) + sumT U x + sumT V x
    rw [sumT_app x V U]; omega
theorem sumT_perm {L L' : List Tn} (h : L.Perm L') (x : Int) : sumT L x = sumT L' x := by
  induction h with
  | nil => rfl
  | cons t _ ih => simp only [sumT]; rw [ih]
  | swap a b l => simp only [sumT]; omega
  | trans _ _ h1 h2 => exact h1.trans h2
theorem sumT_zero {x : Int} : ∀ {R : List Tn}, (∀ t ∈ R, x < t.1) → sumT R x = 0
  | [], _ => rfl
  | t :: R, h => by
    have h1 := h t (by simp)
    show (if t.1 ≤ x then t.2 else 0) + sumT R x = 0
    rw [if_neg (by omega), sumT_zero fun u hu => h u (by simp [hu])]; rfl
/-- Behind the last span no number is held. -/
theorem past_none (x : Int) : ∀ U : List Sp, rightN U U.length = true → lastOf U U.length < x → findO U x = none := by
  refine snoc_ind (fun _ _ => rfl) fun U s ih h hx => ?_
  rw [right_snoc] at h
  rw [last_snoc] at hx
  simp only [Bool.and_eq_true] at h
  have b := step_of h.2
  rw [findO_app, ih h.1 (by omega)]
  show (if holdS s x = true then some s.2.2 else none) = none
  rw [if_neg]
  intro e
  have := (hold_iff _ _).1 e
  omega
theorem past_zero {x : Int} {U : List Sp} (h : rightN U U.length = true) (hx : lastOf U U.length < x) : findS U x = 0 := by rw [findS_O, past_none x U h hx]; rfl
theorem turns_find (x : Int) : ∀ T : List Sp, rightN T T.length = true → sumT (turnsOf T) x = findS T x := by
  refine snoc_ind (fun _ => rfl) fun U s ih h => ?_
  rw [right_snoc] at h
  simp only [Bool.and_eq_true] at h
  have b := step_of h.2
  rw [turnsOf_app, sumT_app, ih h.1, findS_O, findS_O, findO_app]
  rw [show turnsOf [s] = [(s.1, s.2.2), (s.2.1 + 1, -s.2.2)] from rfl]
  show (findO U x).getD 0 + ((if s.1 ≤ x then s.2.2 else 0) + ((if s.2.1 + 1 ≤ x then -s.2.2 else 0) + 0)) = ((findO U x).or (if holdS s x = true then some s.2.2 else none)).getD 0
  rcases Int.lt_or_le (lastOf U U.length) x with h1 | h1
  · rw [past_none x U h.1 h1]
    by_cases h2 : holdS s x = true
    · have := (hold_iff _ _).1 h2
      rw [if_pos h2, if_pos (by omega), if_neg (by omega)]
      show (0 : Int) + (s.2.2 + (0 + 0)) = s.2.2
      omega
    · have n2 : ¬ (s.1 ≤ x ∧ x ≤ s.2.1) := fun e => h2 ((hold_iff _ _).2 e)
      rw [if_neg h2]
      show (0 : Int) + _ = 0
      by_cases h3 : s.1 ≤ x
      · rw [if_pos h3, if_pos (by omega)]; omega
      · rw [if_neg h3, if_neg (by omega)]; omega
  · rw [if_neg (by omega : ¬ s.1 ≤ x), if_neg (by omega : ¬ s.2.1 + 1 ≤ x), if_neg (fun e => by have := (hold_iff _ _).1 e; omega)]
    cases findO U x <;> simp
def sumF : List (List Sp) → Int → Int
  | [], _ => 0
  | T :: LL, x => findS T x + sumF LL x
theorem sums_are (x : Int) : ∀ LL : List (List Sp), (∀ T ∈ LL, rightN T T.length = true) → sumT (tAll LL) x = sumF LL x
  | [], _ => rfl
  | T :: LL, h => by
    rw [show tAll (T :: LL) = turnsOf T ++ tAll LL from rfl, sumT_app, turns_find x T (h T (by simp)), sums_are x LL fun U hU => h U (by simp [hU])]; rfl
theorem find_mem {x : Int} : ∀ {T : List Sp}, findS T x = 0 ∨ ∃ s, s ∈ T ∧ holdS s x = true ∧ findS T x = s.2.2
  | [] => .inl rfl
  | s :: T => by
    by_cases h : holdS s x = true
    · exact .inr ⟨s, by simp, h, by show (if holdS s x = true then _ else _) = _; rw [if_pos h]⟩
    · have e : findS (s :: T) x = findS T x := by show (if holdS s x = true then _ else _) = _; rw [if_neg h]
      rw [e]
      rcases find_mem (x := x) (T := T) with h1 | ⟨u, hu, h1, h2⟩
      · exact .inl h1
      · exact .inr ⟨u, by simp [hu], h1, h2⟩
theorem find_in {T : List Sp} (h : rightN T T.length = true) (x : Int) : 0 ≤ findS T x ∧ findS T x ≤ 65535 ∧ (x < 0 → findS T x = 0) ∧ (1114112 ≤ x → findS T x = 0) := by
  rcases find_mem (x := x) (T := T) with h1 | ⟨s, hs, h1, h2⟩
  · rw [h1]; exact ⟨by omega, by omega, fun _ => rfl, fun _ => rfl⟩
  · have a := right_mem h hs
    have b := (hold_iff _ _).1 h1
    rw [h2]
    exact ⟨by omega, by omega, fun _ => by omega, fun _ => by omega⟩
theorem sumF_in (x : Int) : ∀ LL : List (List Sp), (∀ T ∈ LL, rightN T T.length = true) → 0 ≤ sumF LL x ∧ (x < 0 → sumF LL x = 0) ∧ (1114112 ≤ x → sumF LL x = 0) ∧ sumF LL x ≤ 65535 * (LL.length : Int)
  | [], _ => ⟨Int.le_refl _, fun _ => rfl, fun _ => rfl, by simp [sumF]⟩
  | T :: LL, h => by
    have a := find_in (h T (by simp)) x
    have b := sumF_in x LL fun U hU => h U (by simp [hU])
    show 0 ≤ findS T x + sumF LL x ∧ (x < 0 → findS T x + sumF LL x = 0) ∧ (1114112 ≤ x → findS T x + sumF LL x = 0) ∧ findS T x + sumF LL x ≤ 65535 * ((LL.length + 1 : Nat) : Int)
    refine ⟨by omega, fun e => ?_, fun e => ?_, by omega⟩
    · rw [a.2.2.1 e, b.2.1 e]; rfl
    · rw [a.2.2.2 e, b.2.2.1 e]; rfl
theorem walk_is (S : Int → Int) (h0 : ∀ x, 0 ≤ S x) (he : ∀ x, 1114112 ≤ x → S x = 0) : ∀ (R : List Tn) (F : List Sp) (val frm : Int), (∀ t ∈ R, frm ≤ t.1 ∧ t.1 ≤ 1114112) → R.Pairwise (fun a b => a.1 ≤ b.1) → 0 ≤ frm →
    rightN F F.length = true → fewP F → lastOf F F.length < frm → (∀ x, x < frm → findS F x = S x ∧ S x ≤ 65535) → (∀ x, frm ≤ x → S x = val + sumT R x) →
    (walkS F val frm R = [] ∧ ∃ x, 65535 < S x) ∨ (rightN (walkS F val frm R) (walkS F val frm R).length = true ∧ fewP (walkS F val frm R) ∧ ∀ x, findS (walkS F val frm R) x = S x ∧ S x ≤ 65535)
  | [], F, val, frm, _, _, hf, hr, hw, hl, hx, hv => by
    refine .inr ⟨hr, hw, fun x => ?_⟩
    rcases Int.lt_or_le x frm with h1 | h1
    · exact hx x h1
    · have e1 := hv x h1
      have e2 : val = 0 := by
        rcases Int.lt_or_le x 1114112 with h2 | h2
        · have := hv 1114112 (by omega)
          rw [he _ (by omega)] at this
          simp only [sumT] at this
          omega
        · have := hv x h1
          rw [he _ h2] at this
          simp only [sumT] at this
          omega
      simp only [sumT] at e1
      have e3 : findS (walkS F val frm []) x = 0 := past_zero (U := F) hr (by omega)
      rw [e3]
      omega
  | t :: R, F, val, frm, hR, hP, hf, hr, hw, hl, hx, hv => by
    have ht := hR t (by simp)
    have hP2 := List.pairwise_cons.1 hP
    have hR2 : ∀ u ∈ R, t.1 ≤ u.1 ∧ u.1 ≤ 1114112 := fun u hu => ⟨hP2.1 u hu, (hR u (by simp [hu])).2⟩
    have hv2 : ∀ x, t.1 ≤ x → S x = val + t.2 + sumT R x := fun x h => by
      have := hv x (by omega)
      simp only [sumT] at this
      rw [if_pos h] at this
      omega
    have unfoldW : walkS F val frm (t :: R) = if (decide (frm < t.1) && decide (65535 < val)) = true then [] else walkS (if (decide (frm < t.1) && decide (0 < val)) = true then putS F (frm, t.1 - 1, val) else F) (val + t.2) t.1 R := rfl
    rw [unfoldW]
    by_cases h1 : frm < t.1
    · have hS : ∀ x, frm ≤ x → x < t.1 → S x = val := fun x ha hb => by
        rw [hv x ha, sumT_zero fun u hu => ?_]
        · omega
        · rcases List.mem_cons.1 hu with rfl | hu
          · exact hb
          · have := (hR2 u hu).1; omega
      have hS1 := hS frm (Int.le_refl _) h1
      have hS2 := h0 frm
      by_cases h2 : 65535 < val
      · rw [decide_eq_true h1, decide_eq_true h2]
        exact .inl ⟨rfl, frm, by omega⟩
      · rw [decide_eq_true h1, decide_eq_false h2]
        simp only [Bool.true_and, Bool.false_eq_true, if_false, Bool.and_false]
        by_cases h3 : 0 < val
        · rw [decide_eq_true h3, if_pos rfl]
          have hst : stepB (lastOf F F.length) (frm, t.1 - 1, val) = true := step_mk (by simp only; omega)
          have hpr := put_right hr hst
          refine walk_is S h0 he R _ _ _ hR2 hP2.2 (by omega) hpr.1 (put_few hw _) (by rw [hpr.2]; simp only; omega) (fun x hxt => ?_) hv2
          rw [findS_O, put_find hr hst, findO_app]
          rcases Int.lt_or_le x frm with h4 | h4
          · have h5 := hx x h4
            rw [findS_O] at h5
            have e : findO [(frm, t.1 - 1, val)] x = none := by
              show (if holdS (frm, t.1 - 1, val) x = true then some val else none) = none
              rw [if_neg]
              intro e
              have := ((hold_iff _ _).1 e).1
              simp only at this
              omega
            rw [e, Option.or_none]
            exact h5
          · have e : findO [(frm, t.1 - 1, val)] x = some val := by
              show (if holdS (frm, t.1 - 1, val) x = true then some val else none) = some val
              rw [if_pos ((hold_iff _ _).2 (by simp only; omega))]
            rw [e, past_none x F hr (by omega), hS x h4 hxt]
            exact ⟨rfl, by omega⟩
        · rw [decide_eq_false h3]
          simp only [Bool.false_eq_true, if_false]
          have hz : val = 0 := by omega
          refine walk_is S h0 he R _ _ _ hR2 hP2.2 (by omega) hr hw (by omega) (fun x hxt => ?_) hv2
          rcases Int.lt_or_le x frm with h4 | h4
          · exact hx x h4
          · rw [past_zero hr (by omega), hS x h4 hxt, hz]
            exact ⟨rfl, by omega⟩
    · have e : frm = t.1 := by omega
      rw [decide_eq_false h1]
      simp only [Bool.false_and, Bool.false_eq_true, if_false]
      exact walk_is S h0 he R _ _ _ hR2 hP2.2 (by omega) hr hw (by omega) (fun x hxt => hx x (by omega)) hv2
/-- The sum of lists that are right: none, or a right list of the fewest spans that holds the sums. -/
theorem sum_is {LL : List (List Sp)} {L' : List Tn} (hall : ∀ T ∈ LL, rightN T T.length = true) (hp : L'.Perm (tAll LL)) (hu : upT L') :
    (walkS [] 0 0 L' = [] ∧ ∃ x, 65535 < sumF LL x) ∨ (rightN (walkS [] 0 0 L') (walkS [] 0 0 L').length = true ∧ fewP (walkS [] 0 0 L') ∧ ∀ x, findS (walkS [] 0 0 L') x = sumF LL x ∧ sumF LL x ≤ 65535) := by
  have hin := tAll_in hall
  refine walk_is (sumF LL) (fun x => (sumF_in x LL hall).1) (fun x h => (sumF_in x LL hall).2.2.1 h) L' [] 0 0 (fun t ht => ?_) (up_pair hu) (Int.le_refl _) rfl (fun j hj => by simp at hj) (by decide) (fun x hx => ?_) (fun x _ => ?_)
  · have := hin t (hp.mem_iff.1 ht)
    unfold tnIn at this
    omega
  · rw [(sumF_in x LL hall).2.1 hx]
    exact ⟨rfl, by omega⟩
  · rw [sumT_perm hp, sums_are x LL hall]; omega
theorem max_of (x : Int) : ∀ l : List Int, (∃ y, y ∈ l ∧ y ≤ x) → ∃ m, m ∈ l ∧ m ≤ x ∧ ∀ y, y ∈ l → y ≤ x → y ≤ m
  | [], h => by obtain ⟨y, hy, _⟩ := h; simp at hy
  | a :: l, h => by
    by_cases hl : ∃ y, y ∈ l ∧ y ≤ x
    · obtain ⟨m, hm, hmx, hmax⟩ := max_of x l hl
      by_cases ha : a ≤ x ∧ m < a
      · refine ⟨a, by simp, ha.1, fun y hy hyx => ?_⟩
        rcases List.mem_cons.1 hy with rfl | hy
        · omega
        · have := hmax y hy hyx; omega
      · refine ⟨m, by simp [hm], hmx, fun y hy hyx => ?_⟩
        rcases List.mem_cons.1 hy with rfl | hy
        · omega
        · exact hmax y hy hyx
    · obtain ⟨y, hy, hyx⟩ := h
      have hy2 : y = a := by
        rcases List.mem_cons.1 hy with h1 | h1
        · exact h1
        · exact absurd ⟨y, h1, hyx⟩ hl
      subst hy2
      refine ⟨y, by simp, hyx, fun z hz hzx => ?_⟩
      rcases List.mem_cons.1 hz with rfl | hz
      · omega
      · exact absurd ⟨z, hz, hzx⟩ hl
theorem sum_le {x m : Int} (hmx : m ≤ x) : ∀ LL : List (List Sp), (∀ T ∈ LL, rightN T T.length = true) → (∀ T ∈ LL, ∀ s ∈ T, s.1 ≤ x → s.1 ≤ m) → sumF LL x ≤ sumF LL m
  | [], _, _ => Int.le_refl _
  | T :: LL, h, hm => by
    have ih := sum_le hmx LL (fun U hU => h U (by simp [hU])) fun U hU => hm U (by simp [hU])
    have hr := h T (by simp)
    have h1 : findS T x ≤ findS T m := by
      rcases find_mem (x := x) (T := T) with h1 | ⟨s, hs, h1, h2⟩
      · rw [h1]; exact (find_in hr m).1
      · have b := (hold_iff _ _).1 h1
        have c := hm T (by simp) s hs b.1
        obtain ⟨i, hi, rfl⟩ := List.mem_iff_getElem.1 hs
        have e := own_find hr hi (x := m) (by rw [getD_sp hi]; exact c) (by rw [getD_sp hi]; omega)
        rw [h2, e, getD_sp hi]
        exact Int.le_refl _
    show findS T x + sumF LL x ≤ findS T m + sumF LL m
    omega
/-- Where no sum at a span's first number is above the greatest value, none is. -/
theorem low_all {LL : List (List Sp)} (hall : ∀ T ∈ LL, rightN T T.length = true) (h : ∀ T ∈ LL, ∀ s ∈ T, sumF LL s.1 ≤ 65535) (x : Int) : sumF LL x ≤ 65535 := by
  by_cases hl : ∃ y, y ∈ (LL.flatMap fun T => T.map fun s => s.1) ∧ y ≤ x
  · obtain ⟨m, hm, hmx, hmax⟩ := max_of x _ hl
    obtain ⟨T, hT, hm2⟩ := List.mem_flatMap.1 hm
    obtain ⟨s, hs, rfl⟩ := List.mem_map.1 hm2
    have := sum_le hmx LL hall fun U hU u hu hux => hmax _ (List.mem_flatMap.2 ⟨U, hU, List.mem_map.2 ⟨u, hu, rfl⟩⟩) hux
    have := h T hT s hs
    omega
  · rcases Int.lt_or_le x 0 with h1 | h1
    · have := (sumF_in x LL hall).2.1 h1
      omega
    · have := sum_le (x := x) (m := -1) (by omega) LL hall fun T hT s hs hsx => absurd ⟨s.1, List.mem_flatMap.2 ⟨T, hT, List.mem_map.2 ⟨s, hs, rfl⟩⟩, hsx⟩ hl
      have := (sumF_in (-1) LL hall).2.1 (by omega)
      omega
end Go.Proofs.Ytmfoldohmbaikaa
