/- What the fewest spans are. Of no walk. -/
import Derived.Test.YtgoeacmpphmnoaaSpanI
import Derived.Test.YtgoeacmpphmnoaaSpanF
namespace Go.Proofs.Ytgoeacmpphmnoaa
open Go.RowKit Go.ChangeShapes Go.WideShapes
theorem getD_left (U V : List Sp) {k : Nat} (h : k < U.length) : (U ++ V).getD k z3 = U.getD k z3 := by simp [List.getD, List.getElem?_append_left h]
theorem last_app (U V : List Sp) {k : Nat} (h : k ≤ U.length) : lastOf (U ++ V) k = lastOf U k := by
  unfold lastOf
  by_cases hk : k = 0
  · rw [if_pos hk, if_pos hk]
  · rw [if_neg hk, if_neg hk, getD_left U V (by omega)]
theorem right_app (U V : List Sp) : ∀ k, k ≤ U.length → rightN (U ++ V) k = rightN U k
  | 0, _ => rfl
  | k + 1, h => by
    unfold rightN
    rw [right_app U V k (by omega), last_app U V (by omega), getD_left U V (by omega)]
theorem right_snoc (U : List Sp) (s : Sp) : rightN (U ++ [s]) (U ++ [s]).length = (rightN U U.length && stepB (lastOf U U.length) s) := by
  rw [show (U ++ [s]).length = U.length + 1 by simp]
  show (rightN (U ++ [s]) U.length && stepB (lastOf (U ++ [s]) U.length) ((U ++ [s]).getD U.length z3)) = _
  rw [right_app U [s] _ (Nat.le_refl _), last_app U [s] (Nat.le_refl _), getD_end]
theorem last_snoc (U : List Sp) (l : Sp) : lastOf (U ++ [l]) (U ++ [l]).length = l.2.1 := by
  unfold lastOf
  rw [if_neg (by simp), show (U ++ [l]).length - 1 = U.length by simp, getD_end]
theorem join_iff {l s : Sp} (h : joinB l s = true) : l.2.1 + 1 = s.1 ∧ l.2.2 = s.2.2 := by
  unfold joinB at h
  simpa using h
theorem step_mk {last : Int} {s : Sp} (h : last < s.1 ∧ s.1 ≤ s.2.1 ∧ s.2.1 ≤ 1114111 ∧ 1 ≤ s.2.2 ∧ s.2.2 ≤ 65535) : stepB last s = true := by
  unfold stepB
  rw [decide_eq_true h.1, decide_eq_true h.2.1, decide_eq_true h.2.2.1, decide_eq_true h.2.2.2.1, decide_eq_true h.2.2.2.2]; rfl
theorem step_of {last : Int} {s : Sp} (h : stepB last s = true) : last < s.1 ∧ s.1 ≤ s.2.1 ∧ s.2.1 ≤ 1114111 ∧ 1 ≤ s.2.2 ∧ s.2.2 ≤ 65535 := by
  rcases step_cases last s with ⟨_, h2⟩ | ⟨h2, _⟩
  · exact h2
  · rw [h] at h2; cases h2
theorem put_right {U : List Sp} {s : Sp} (h : rightN U U.length = true) (hs : stepB (lastOf U U.length) s = true) : rightN (putS U s) (putS U s).length = true ∧ lastOf (putS U s) (putS U s).length = s.2.1 := by
  rcases sp_end U with rfl | ⟨V, l, rfl⟩
  · rw [putS_nil]
    exact ⟨by have := right_snoc [] s; rw [List.nil_append] at this; rw [this, h, hs]; rfl, last_snoc [] s⟩
  · cases hj : joinB l s with
    | false =>
      rw [putS_no V l s hj]
      exact ⟨by rw [right_snoc, h, hs]; rfl, last_snoc _ s⟩
    | true =>
      rw [putS_yes V l s hj]
      rw [right_snoc] at h
      rw [last_snoc] at hs
      simp only [Bool.and_eq_true] at h
      have a := step_of h.2
      have b := step_of hs
      have c := join_iff hj
      refine ⟨?_, last_snoc _ _⟩
      rw [right_snoc, h.1, step_mk (s := (l.1, s.2.1, l.2.2)) (by simp only; omega)]; rfl
theorem right_succ {T : List Sp} {k : Nat} (h : rightN T (k + 1) = true) : rightN T k = true ∧ stepB (lastOf T k) (T.getD k z3) = true := by
  unfold rightN at h
  simpa only [Bool.and_eq_true] using h
theorem last_succ (T : List Sp) (k : Nat) : lastOf T (k + 1) = (T.getD k z3).2.1 := by unfold lastOf; rw [if_neg (by omega)]; rfl
theorem few_right (T : List Sp) : ∀ k, rightN T k = true → rightN (fewN T k) (fewN T k).length = true ∧ lastOf (fewN T k) (fewN T k).length = lastOf T k
  | 0, _ => ⟨rfl, rfl⟩
  | k + 1, h => by
    have h1 := right_succ h
    have ih := few_right T k h1.1
    rw [last_succ]
    exact put_right ih.1 (by rw [ih.2]; exact h1.2)
def findO : List Sp → Int → Option Int
  | [], _ => none
  | s :: T, n => if holdS s n = true then some s.2.2 else findO T n
theorem findS_O (n : Int) : ∀ T, findS T n = (findO T n).getD 0
  | [] => rfl
  | s :: T => by
    show (if holdS s n = true then s.2.2 else findS T n) = (if holdS s n = true then some s.2.2 else findO T n).getD 0
    by_cases h : holdS s n = true
    · rw [if_pos h, if_pos h]; rfl
    · rw [if_neg h, if_neg h]; exact findS_O n T
theorem findO_app (n : Int) (V : List Sp) : ∀ U, findO (U ++ V) n = (findO U n).or (findO V n)
  | [] => rfl
  | s :: U => by
    show (if holdS s n = true then some s.2.2 else findO (U ++ V) n) = (if holdS s n = true then some s.2.2 else findO U n).or (findO V n)
    by_cases h : holdS s n = true
    · rw [if_pos h, if_pos h]; rfl
    · rw [if_neg h, if_neg h]; exact findO_app n V U
theorem hold_iff (s : Sp) (n : Int) : holdS s n = true ↔ s.1 ≤ n ∧ n ≤ s.2.1 := by
  unfold holdS
  simp only [Bool.and_eq_true, decide_eq_true_eq]
theorem put_find {U : List Sp} {s : Sp} (h : rightN U U.length = true) (hs : stepB (lastOf U U.length) s = true) (n : Int) : findO (putS U s) n = findO (U ++ [s]) n := by
  rcases sp_end U with rfl | ⟨V, l, rfl⟩
  · rfl
  · cases hj : joinB l s with
    | false => rw [putS_no V l s hj]
    | true =>
      rw [putS_yes V l s hj]
      rw [right_snoc] at h
      rw [last_snoc] at hs
      simp only [Bool.and_eq_true] at h
      have a := step_of h.2
      have b := step_of hs
      have c := join_iff hj
      rw [List.append_assoc, findO_app, findO_app]
      congr 1
      show (if holdS (l.1, s.2.1, l.2.2) n = true then some l.2.2 else none) = (if holdS l n = true then some l.2.2 else if holdS s n = true then some s.2.2 else none)
      by_cases h1 : holdS l n = true
      · have := (hold_iff _ _).1 h1
        rw [if_pos h1, if_pos ((hold_iff _ _).2 (by simp only; omega))]
      · rw [if_neg h1]
        by_cases h2 : holdS s n = true
        · have := (hold_iff _ _).1 h2
          rw [if_pos h2, if_pos ((hold_iff _ _).2 (by simp only; omega)), c.2]
        · rw [if_neg h2, if_neg]
          intro h3
          have h3 := (hold_iff _ _).1 h3
          simp only at h3
          have n1 : ¬ (l.1 ≤ n ∧ n ≤ l.2.1) := fun e => h1 ((hold_iff _ _).2 e)
          have n2 : ¬ (s.1 ≤ n ∧ n ≤ s.2.1) := fun e => h2 ((hold_iff _ _).2 e)
          omega
theorem few_find (T : List Sp) (n : Int) : ∀ k, k ≤ T.length → rightN T k = true → findO (fewN T k) n = findO (T.take k) n
  | 0, _, _ => rfl
  | k + 1, hk, h => by
    have h1 := right_succ h
    have ih := few_right T k h1.1
    show findO (putS (fewN T k) (T.getD k z3)) n = _
    rw [put_find ih.1 (by rw [ih.2]; exact h1.2), findO_app, few_find T n k (by omega) h1.1, ← findO_app, ← take_one T k z3 (by omega)]
def cntL : List Sp → Int
  | [] => 0
  | s :: T => (s.2.1 - s.1 + 1) + cntL T
theorem cntL_app (V : List Sp) : ∀ U, cntL (U ++ V) = cntL U + cntL V
  | [] => by simp [cntL]
  | s :: U => by
    show (s.2.1 - s.1 + 1) + cntL (U ++ V) = (s.2.1 - s.1 + 1) + cntL U + cntL V
    rw [cntL_app V U]; omega
theorem cnt_take (T : List Sp) : ∀ k, k ≤ T.length → cntN T k = cntL (T.take k)
  | 0, _ => rfl
  | k + 1, h => by
    rw [take_one T k z3 (by omega), cntL_app, ← cnt_take T k (by omega)]
    show cntN T k + _ = cntN T k + (_ + 0)
    omega
theorem put_cnt (U : List Sp) (s : Sp) : cntL (putS U s) = cntL U + (s.2.1 - s.1 + 1) := by
  rcases sp_end U with rfl | ⟨V, l, rfl⟩
  · rw [putS_nil]; simp [cntL]
  · cases hj : joinB l s with
    | false => rw [putS_no V l s hj, cntL_app]; simp [cntL]
    | true =>
      rw [putS_yes V l s hj, cntL_app, cntL_app]
      have c := join_iff hj
      simp only [cntL]
      omega
theorem few_cnt (T : List Sp) : ∀ k, cntL (fewN T k) = cntN T k
  | 0 => rfl
  | k + 1 => by
    show cntL (putS (fewN T k) (T.getD k z3)) = cntN T k + _
    rw [put_cnt, few_cnt T k]
theorem few_snoc {V : List Sp} {l s : Sp} (h : fewP (V ++ [l])) (hj : joinB l s = false) : fewP (V ++ [l] ++ [s]) := by
  intro j hj'
  rcases Nat.lt_or_ge (j + 1) (V ++ [l]).length with h1 | h1
  · rw [getD_left _ _ (by omega), getD_left _ _ h1]; exact h j h1
  · have e : j = V.length := by simp at hj' h1; omega
    subst e
    rw [getD_left _ _ (by simp), getD_end, show V.length + 1 = (V ++ [l]).length by simp, getD_end]; exact hj
theorem put_few {U : List Sp} (h : fewP U) (s : Sp) : fewP (putS U s) := by
  rcases sp_end U with rfl | ⟨V, l, rfl⟩
  · rw [putS_nil]; intro j hj; simp at hj
  · cases hj : joinB l s with
    | false => rw [putS_no V l s hj]; exact few_snoc h hj
    | true =>
      rw [putS_yes V l s hj]
      intro j hj'
      have hj2 : j + 1 < V.length + 1 := by simpa using hj'
      have h0 := h j (by simpa using hj')
      rcases Nat.lt_or_ge (j + 1) V.length with h1 | h1
      · rw [getD_left _ _ (by omega), getD_left _ _ h1] at h0 ⊢; exact h0
      · have e : j + 1 = V.length := by omega
        rw [getD_left _ _ (by omega), e, getD_end] at h0 ⊢; exact h0
theorem few_few (T : List Sp) : ∀ k, fewP (fewN T k)
  | 0 => by intro j hj; simp [fewN] at hj
  | k + 1 => put_few (few_few T k) _
theorem few_take {F : List Sp} (h : fewP F) : ∀ k, k ≤ F.length → fewN F k = F.take k
  | 0, _ => rfl
  | 1, hk => by rw [take_one F 0 z3 (by omega)]; rfl
  | k + 2, hk => by
    show putS (fewN F (k + 1)) (F.getD (k + 1) z3) = _
    rw [few_take h (k + 1) (by omega), take_one F (k + 1) z3 (by omega)]
    rw [take_one F k z3 (by omega), putS_no _ _ _ (h k (by omega))]
theorem own_find {T : List Sp} (hr : rightN T T.length = true) {k : Nat} (hk : k < T.length) {x : Int} (h1 : (T.getD k z3).1 ≤ x) (h2 : x ≤ (T.getD k z3).2.1) : findS T x = (T.getD k z3).2.2 := by
  refine find_here hk (fun j hj => ?_) ((hold_iff _ _).2 ⟨h1, h2⟩)
  have a := right_at hr hk
  have b := hi_mono hr j (k - 1) (by omega) (by omega)
  unfold lastOf at a
  rw [if_neg (by omega)] at a
  unfold holdS
  rw [show decide (x ≤ (T.getD j z3).2.1) = false from decide_eq_false (by omega), Bool.and_false]
/-- What the fewest spans of a right list are. -/
theorem fewest_is {T : List Sp} (hr : rightN T T.length = true) : fewestS T = fewN T T.length ∧ rightN (fewestS T) (fewestS T).length = true ∧ fewP (fewestS T) ∧ fewestS (fewestS T) = fewestS T ∧ (∀ n, findS (fewestS T) n = findS T n) ∧
    cntN (fewestS T) (fewestS T).length = cntN T T.length ∧ (fewestS T).length ≤ T.length := by
  have e : fewestS T = fewN T T.length := by unfold fewestS; rw [if_pos hr]
  rw [e]
  have h1 := (few_right T T.length hr).1
  have h2 := few_few T T.length
  refine ⟨rfl, h1, h2, ?_, ?_, ?_, fewN_len T T.length⟩
  · unfold fewestS
    rw [if_pos h1, few_take h2 _ (Nat.le_refl _), List.take_length]
  · intro n
    rw [findS_O, findS_O, few_find T n T.length (Nat.le_refl _) hr, List.take_length]
  · rw [cnt_take _ _ (Nat.le_refl _), List.take_length, few_cnt]
end Go.Proofs.Ytgoeacmpphmnoaa
