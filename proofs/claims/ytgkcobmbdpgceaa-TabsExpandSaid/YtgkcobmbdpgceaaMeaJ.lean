/- Clusters of what stands behind a cluster: numbers alone. -/
import Derived.Test.YtgkcobmbdpgceaaMeaI
namespace Go.Proofs.Ytgkcobmbdpgceaa
open Go.RowKit Go.ChangeShapes Go.WideShapes
def clTab (A : List (Int × Int)) : Bool := A.all fun p => (List.range (p.2 - p.1 + 1).toNat).all fun i => let g := gcbI (p.1 + (i : Int)); g == 4 || g == 5 || g == 8
theorem cl_tab {A : List (Int × Int)} (h : clTab A = true) {r : Int} (ha : inTab A r = true) : gcbI r = 4 ∨ gcbI r = 5 ∨ gcbI r = 8 := by
  obtain ⟨p, hp, h1⟩ := List.any_eq_true.1 ha
  have h2 := List.all_eq_true.1 h p hp
  simp only [Bool.and_eq_true, decide_eq_true_eq] at h1
  have h3 := List.all_eq_true.1 h2 (r - p.1).toNat (List.mem_range.2 (by omega))
  rw [show p.1 + ((r - p.1).toNat : Int) = r by omega] at h3
  simp only [Bool.or_eq_true, beq_iff_eq] at h3
  rcases h3 with (h3 | h3) | h3
  · exact .inl h3
  · exact .inr (.inl h3)
  · exact .inr (.inr h3)
set_option maxRecDepth 100000 in
theorem link_cl : clTab tLink = true := by decide +kernel
set_option maxRecDepth 100000 in
theorem join_cl : clTab tJoin = true := by decide +kernel
/-- What goes on with a conjunct extends. -/
theorem conj_ext {r : Int} (h : conjO r = 2 ∨ conjO r = 3) : gcbI r = 4 ∨ gcbI r = 5 ∨ gcbI r = 8 := by
  unfold conjO at h
  by_cases h1 : inTab tCons r = true
  · rw [if_pos h1] at h; omega
  · rw [if_neg h1] at h
    by_cases h2 : inTab tLink r = true
    · exact cl_tab link_cl h2
    · rw [if_neg h2] at h
      by_cases h3 : inTab tJoin r = true
      · exact cl_tab join_cl h3
      · rw [if_neg h3] at h; omega
/-- Behind what does not break, what extends is joined. -/
theorem ext_joins {la br : Int} (h : br = 4 ∨ br = 5 ∨ br = 8) (hj : joinI la br ≠ 1) : brB (clI la) = true := by
  cases hb : brB (clI la) with
  | true => rfl
  | false =>
    exfalso
    apply hj
    have e : clI br = br := by unfold clI; rw [if_neg (by omega)]
    have h2 : brB br = false := by unfold brB; simp; omega
    unfold joinI
    rw [e]
    rcases pairI_cases (clI la) br with ⟨_, _, h⟩ | ⟨_, h3, _⟩ | ⟨_, _, h3, _⟩ | ⟨_, _, _, _, h⟩ | ⟨_, _, _, _, h⟩
    · exact h
    · rw [hb] at h3; cases h3
    · rw [h2] at h3; cases h3
    · exact h
    · rw [h, if_pos (by omega)]
theorem cl_br {n : Int} (h : brB (clI n) = true) : 1 ≤ n ∧ n ≤ 3 := by
  unfold brB clI at h
  simp at h
  split at h <;> omega
/-- The states behind a number that begins a cluster are what they would be at the beginning of a text. -/
theorem sts_fresh {a b : List Int} {r : Int} {t : List Int} (hb : b = r :: t) (hj : jR (knownL (a ++ b)) a.length = false) : ∀ i, cSt (knownL (a ++ b)) (a.length + (i + 1)) = cSt (knownL b) (i + 1) ∧ pSt (knownL (a ++ b)) (a.length + (i + 1)) = pSt (knownL b) (i + 1) ∧ oSt (knownL (a ++ b)) (a.length + (i + 1)) = oSt (knownL b) (i + 1) ∧ lSt (knownL (a ++ b)) (a.length + (i + 1)) = lSt (knownL b) (i + 1)
  | 0 => by
    have h3 := known_right a b 0
    have h4 : (knownL b).getD 0 Pr.none = knownPr r := by rw [hb]; rfl
    rw [Nat.add_zero, h4] at h3
    have e1 : (knownPr r).br = gcbI r := rfl
    have e2 : (knownPr r).pc = inTab tPict r := rfl
    have e3 : (knownPr r).cv = conjO r := rfl
    rw [jR_st, h3, e1, e2, e3] at hj
    show cSt _ (a.length + 0 + 1) = cSt _ (0 + 1) ∧ pSt _ (a.length + 0 + 1) = pSt _ (0 + 1) ∧ oSt _ (a.length + 0 + 1) = oSt _ (0 + 1) ∧ lSt _ (a.length + 0 + 1) = lSt _ (0 + 1)
    rw [Nat.add_zero]
    rcases Nat.eq_zero_or_pos a.length with h0 | h0
    · have ha : a = [] := List.eq_nil_of_length_eq_zero h0
      subst ha
      exact ⟨rfl, rfl, rfl, rfl⟩
    obtain ⟨m, hm⟩ : ∃ m, a.length = m + 1 := ⟨a.length - 1, by omega⟩
    have hk : (knownL (a ++ b)).getD m Pr.none = knownPr (a.getD m 0) := by rw [known_left a b m (by omega), knownL_at (by omega)]
    have hl : lSt (knownL (a ++ b)) a.length = gcbI (a.getD m 0) := by
      rw [hm]
      show ((knownL (a ++ b)).getD m Pr.none).br = _
      rw [hk]
      rfl
    have hcS : cSt (knownL (a ++ b)) a.length = conjI (cSt (knownL (a ++ b)) m) (conjO (a.getD m 0)) := by
      rw [hm]
      show conjI _ ((knownL (a ++ b)).getD m Pr.none).cv = _
      rw [hk]
      rfl
    have hpS : pSt (knownL (a ++ b)) a.length = picI (pSt (knownL (a ++ b)) m) (gcbI (a.getD m 0)) (inTab tPict (a.getD m 0)) := by
      rw [hm]
      show picI _ ((knownL (a ++ b)).getD m Pr.none).br ((knownL (a ++ b)).getD m Pr.none).pc = _
      rw [hk]
      rfl
    rw [hl, decide_eq_true h0] at hj
    unfold joinsB at hj
    rw [if_neg (by decide)] at hj
    have hji : joinI (gcbI (a.getD m 0)) (gcbI r) ≠ 1 := fun e => by rw [if_pos e] at hj; cases hj
    rw [if_neg hji] at hj
    have hctl : (gcbI r = 4 ∨ gcbI r = 5 ∨ gcbI r = 8) → cSt (knownL (a ++ b)) a.length = 0 ∧ pSt (knownL (a ++ b)) a.length = 0 := fun h => by
      have h5 := cl_br (ext_joins h hji)
      obtain ⟨h6, h7⟩ := ctrl_plain h5
      rw [hcS, hpS, h6, h7]
      refine ⟨by simp [conjI], ?_⟩
      unfold picI
      rw [if_neg (by decide)]
      split
      · rfl
      · rw [if_neg (by omega), if_neg (by omega)]
    have c1 : cSt (knownL (a ++ b)) (a.length + 1) = conjI (cSt (knownL (a ++ b)) a.length) ((knownL (a ++ b)).getD a.length Pr.none).cv := rfl
    have c2 : pSt (knownL (a ++ b)) (a.length + 1) = picI (pSt (knownL (a ++ b)) a.length) ((knownL (a ++ b)).getD a.length Pr.none).br ((knownL (a ++ b)).getD a.length Pr.none).pc := rfl
    have c3 : oSt (knownL (a ++ b)) (a.length + 1) = (((knownL (a ++ b)).getD a.length Pr.none).br == 6 && !oSt (knownL (a ++ b)) a.length) := rfl
    have c4 : lSt (knownL (a ++ b)) (a.length + 1) = ((knownL (a ++ b)).getD a.length Pr.none).br := rfl
    have d1 : cSt (knownL b) (0 + 1) = conjI 0 ((knownL b).getD 0 Pr.none).cv := rfl
    have d2 : pSt (knownL b) (0 + 1) = picI 0 ((knownL b).getD 0 Pr.none).br ((knownL b).getD 0 Pr.none).pc := rfl
    have d3 : oSt (knownL b) (0 + 1) = (((knownL b).getD 0 Pr.none).br == 6 && !false) := rfl
    have d4 : lSt (knownL b) (0 + 1) = ((knownL b).getD 0 Pr.none).br := rfl
    rw [c1, c2, c3, c4, d1, d2, d3, d4, h3, h4, e1, e2, e3]
    refine ⟨?_, ?_, ?_, rfl⟩
    · by_cases h5 : conjO r = 2 ∨ conjO r = 3
      · rw [(hctl (conj_ext h5)).1]
      · unfold conjI
        by_cases h6 : conjO r = 1
        · rw [if_pos h6, if_pos h6]
        · rw [if_neg h6, if_neg h6, if_neg (by omega), if_neg (by omega), if_neg (by omega), if_neg (by omega)]
    · by_cases h5 : gcbI r = 4 ∨ gcbI r = 5 ∨ gcbI r = 8
      · rw [(hctl h5).2]
      · unfold picI
        cases inTab tPict r with
        | true => rfl
        | false =>
          simp only [Bool.false_eq_true, if_false]
          rw [if_neg (show ¬ gcbI r = 4 by omega), if_neg (show ¬ gcbI r = 5 by omega)]
          split <;> rfl
    · cases h6 : gcbI r == 6 with
      | false => rfl
      | true =>
        rw [h6] at hj
        have ho : oSt (knownL (a ++ b)) a.length = false := by
          cases ho : oSt (knownL (a ++ b)) a.length with
          | false => rfl
          | true =>
            rw [ho] at hj
            split at hj
            · cases hj
            · split at hj <;> cases hj
        rw [ho]
  | i + 1 => by
    obtain ⟨h1, h2, h3, _⟩ := sts_fresh (a := a) hb hj i
    have h5 := known_right a b (i + 1)
    show cSt _ (a.length + (i + 1) + 1) = cSt _ (i + 1 + 1) ∧ pSt _ (a.length + (i + 1) + 1) = pSt _ (i + 1 + 1) ∧ oSt _ (a.length + (i + 1) + 1) = oSt _ (i + 1 + 1) ∧ lSt _ (a.length + (i + 1) + 1) = lSt _ (i + 1 + 1)
    have c1 : cSt (knownL (a ++ b)) (a.length + (i + 1) + 1) = conjI (cSt (knownL (a ++ b)) (a.length + (i + 1))) ((knownL (a ++ b)).getD (a.length + (i + 1)) Pr.none).cv := rfl
    have c2 : pSt (knownL (a ++ b)) (a.length + (i + 1) + 1) = picI (pSt (knownL (a ++ b)) (a.length + (i + 1))) ((knownL (a ++ b)).getD (a.length + (i + 1)) Pr.none).br ((knownL (a ++ b)).getD (a.length + (i + 1)) Pr.none).pc := rfl
    have c3 : oSt (knownL (a ++ b)) (a.length + (i + 1) + 1) = (((knownL (a ++ b)).getD (a.length + (i + 1)) Pr.none).br == 6 && !oSt (knownL (a ++ b)) (a.length + (i + 1))) := rfl
    have c4 : lSt (knownL (a ++ b)) (a.length + (i + 1) + 1) = ((knownL (a ++ b)).getD (a.length + (i + 1)) Pr.none).br := rfl
    rw [c1, c2, c3, c4, h5, h1, h2, h3]
    exact ⟨rfl, rfl, rfl, rfl⟩
theorem join_fresh {a b : List Int} {r : Int} {t : List Int} (hb : b = r :: t) (hj : jR (knownL (a ++ b)) a.length = false) : ∀ i, jR (knownL (a ++ b)) (a.length + i) = jR (knownL b) i
  | 0 => by rw [jR_zero, Nat.add_zero, hj]
  | i + 1 => by
    obtain ⟨h1, h2, h3, h4⟩ := sts_fresh (a := a) hb hj i
    rw [jR_st, jR_st, h1, h2, h3, h4, known_right]
    rw [decide_eq_true (show 0 < a.length + (i + 1) by omega), decide_eq_true (show 0 < i + 1 by omega)]
/-- A text falls in two where a cluster begins. -/
theorem cluA_fresh {a b : List Int} (hne : b ≠ []) (hj : jR (knownL (a ++ b)) a.length = false) : cluA (a ++ b) = cluA a ++ cluA b := by
  obtain ⟨r, t, hb⟩ : ∃ r t, b = r :: t := by
    cases b with
    | nil => exact absurd rfl hne
    | cons r t => exact ⟨r, t, rfl⟩
  have h0 := hj
  have hj := join_fresh (a := a) hb hj
  have hlb : b.length = t.length + 1 := by rw [hb]; rfl
  unfold cluA clS
  rw [List.length_append, hlb, spansB_cut _ _ _ h0, List.map_append, List.map_map]
  have e1 : spansB (jR (knownL (a ++ b))) a.length = spansB (jR (knownL a)) a.length := spansB_congr _ _ _ fun i hi => jR_congr i fun k hk => known_left a b k (by omega)
  have e2 : spansB (fun i => jR (knownL (a ++ b)) (a.length + i)) (t.length + 1) = spansB (jR (knownL b)) (t.length + 1) := spansB_congr _ _ _ fun i _ => hj i
  rw [e1, e2]
  congr 1
  · refine List.map_congr_left fun p hp => ?_
    have := spansB_ok _ _ _ hp
    unfold sliceL
    rw [List.drop_append_of_le_length (by omega), List.take_append_of_le_length (by rw [List.length_drop]; omega)]
  · refine List.map_congr_left fun p hp => ?_
    show sliceL (a ++ b) (a.length + p.1, a.length + p.2) = sliceL b p
    unfold sliceL
    simp only
    rw [List.drop_length_add_append]
    congr 1
    omega
/-- The clusters of what stands behind the first k. -/
theorem cluA_dropE (xs : List Int) (k : Nat) (h : k < (clS xs).length) : cluA (xs.drop (endC xs k)) = (cluA xs).drop k := by
  have hj := endC_break xs k h
  have hlt : endC xs k < xs.length := by
    have := endC_lt xs k _ h (Nat.le_refl _)
    rw [endC_last] at this
    exact this
  have hl : (xs.take (endC xs k)).length = endC xs k := by rw [List.length_take]; omega
  have e := cluA_fresh (a := xs.take (endC xs k)) (b := xs.drop (endC xs k)) (fun e => by have := congrArg List.length e; rw [List.length_drop] at this; simp at this; omega) (by rw [List.take_append_drop, hl]; exact hj)
  rw [List.take_append_drop, cluA_takeE xs k (Nat.le_of_lt h)] at e
  have e2 := congrArg (List.drop k) e
  rw [List.drop_append, List.length_take, clA_len, List.drop_take, Nat.sub_self, List.take_zero, List.nil_append, Nat.min_eq_left (Nat.le_of_lt h), Nat.sub_self, List.drop_zero] at e2
  exact e2.symm
/-- A cluster by itself is one cluster. -/
theorem cluA_one (xs : List Int) (k : Nat) (h : k < (clS xs).length) : colsC ((cluA xs).getD k []) = wdC ((cluA xs).getD k []) := by
  obtain ⟨D, hD⟩ : ∃ D, D = xs.drop (endC xs k) := ⟨_, rfl⟩
  have hdr := cluA_dropE xs k h
  rw [← hD] at hdr
  have hml := clA_len xs
  have hdl : (clS D).length = (clS xs).length - k := by rw [← clA_len, hdr, List.length_drop, clA_len]
  have ht := cluA_takeE D 1 (by omega)
  have hfl := flat_take D 1 (by omega)
  have h0 : (cluA D).take 1 = [(cluA xs).getD k []] := by
    rw [hdr, List.take_one, List.head?_drop]
    simp [List.getD, List.getElem?_eq_getElem (show k < (cluA xs).length by omega)]
  have h1 : D.take (endC D 1) = (cluA xs).getD k [] := by
    rw [← hfl, List.map_take]
    show ((cluA D).take 1).flatten = _
    rw [h0]
    simp
  rw [h1, h0] at ht
  unfold colsC
  rw [ht]
  simp [sumW]
end Go.Proofs.Ytgkcobmbdpgceaa
