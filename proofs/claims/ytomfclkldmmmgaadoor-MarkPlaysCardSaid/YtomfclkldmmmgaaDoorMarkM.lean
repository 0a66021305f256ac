/- Clusters in rows: what At, Add, Widen answer. -/
import Derived.Test.YtomfclkldmmmgaaDoorRowM
namespace Go.Proofs.YtomfclkldmmmgaaDoor
open Go.RowKit Go.ChangeShapes Go.WideShapes
theorem valid_repl (x : Int) : validB (repl x) = true := by
  unfold repl
  by_cases h : validB x = true
  · rw [if_pos h]; exact h
  · rw [if_neg h]; decide
theorem repl_valid {x : Int} (h : validB x = true) : repl x = x := by unfold repl; rw [if_pos h]
theorem repl_repl (x : Int) : repl (repl x) = repl x := repl_valid (valid_repl x)
theorem all_repl (xs : List Int) : allValid (xs.map repl) = true := by
  unfold allValid
  rw [List.all_eq_true]
  intro y hy
  obtain ⟨x, _, rfl⟩ := List.mem_map.1 hy
  exact valid_repl x
theorem map_valid {t : List Int} (h : allValid t = true) : t.map repl = t := by
  unfold allValid at h
  rw [List.all_eq_true] at h
  induction t with
  | nil => rfl
  | cons x t ih =>
    rw [List.map_cons, repl_valid (h x (by simp)), ih (fun y hy => h y (by simp [hy]))]
theorem ofC_len (wide : Int) (xs : List Int) : (ofC wide xs).length = if 2 ≤ wide then 2 else 1 := by
  unfold ofC
  simp only
  split <;> split <;> rfl
theorem ofC_sound (wide : Int) (xs : List Int) : soundB (ofC wide xs) = true := by
  have hv := all_repl (xs.take 16)
  have hl : ((xs.take 16).map repl).length ≤ 16 := by simp; omega
  unfold ofC
  generalize (xs.take 16).map repl = t at hv hl
  simp only
  by_cases h0 : t.length = 0
  · rw [if_pos h0]
    split <;> decide
  · rw [if_neg h0]
    have r1 : rightB (1, t) = true := by
      unfold rightB
      simp [hv]
      omega
    have r2 : rightB (2, t) = true := by
      unfold rightB
      simp [hv]
      omega
    split
    · unfold soundB
      simp [soundF, r2]
      decide
    · unfold soundB
      simp [soundF, r1]
theorem ofC_text {wide : Int} {t : List Int} (h0 : 0 < t.length) (h1 : t.length ≤ 16) : ofC wide t = if 2 ≤ wide then [(2, t.map repl), (3, [])] else [(1, t.map repl)] := by
  unfold ofC
  rw [List.take_of_length_le h1]
  simp only
  rw [if_neg (by simp; intro h; simp [h] at h0)]
theorem ofC_repl (wide : Int) (t : List Int) (x : Int) : ofC wide (t ++ [repl x]) = ofC wide (t ++ [x]) := by
  unfold ofC
  have e : ((t ++ [repl x]).take 16).map repl = ((t ++ [x]).take 16).map repl := by
    rw [List.map_take, List.map_take, List.map_append, List.map_append]
    simp [repl_repl]
  rw [e]
theorem right_kinds {c : Cl} (h : rightB c = true) : (c.1 = 0 ∨ c.1 = 3) ∧ c.2 = [] ∨ (c.1 = 1 ∨ c.1 = 2) ∧ 0 < c.2.length ∧ c.2.length ≤ 16 ∧ allValid c.2 = true := by
  unfold rightB at h
  by_cases h0 : (c.1 == 0 || c.1 == 3) = true
  · rw [if_pos h0] at h
    simp at h0 h
    exact .inl ⟨h0, h⟩
  · rw [if_neg h0] at h
    simp only [Bool.and_eq_true, Bool.or_eq_true, beq_iff_eq, decide_eq_true_eq] at h
    exact .inr ⟨h.1.1.1, h.1.1.2, h.1.2, h.2⟩
/-- Where the cluster at a column begins; -1: there is none. -/
def clAt (L : List Cl) (col : Int) : Int := if col < 0 ∨ (L.length : Int) ≤ col ∨ kindAt L col = 0 then -1 else if kindAt L col = 3 then col - 1 else col
theorem cl_none {L : List Cl} {col : Int} (h : col < 0 ∨ (L.length : Int) ≤ col ∨ kindAt L col = 0) : clAt L col = -1 := by unfold clAt; rw [if_pos h]
theorem kind_nat (L : List Cl) (k : Nat) : kindAt L (k : Int) = (L.getD k zc).1 := by
  unfold kindAt
  rw [if_neg (by omega)]
  simp
theorem cl_self {L : List Cl} {k : Nat} (hk : k < L.length) (h : (L.getD k zc).1 = 1 ∨ (L.getD k zc).1 = 2) : clAt L (k : Int) = k := by
  have e := kind_nat L k
  unfold clAt
  rw [if_neg (by rw [e]; omega), if_neg (by rw [e]; omega)]
theorem cl_back {L : List Cl} {k : Nat} (hk : k < L.length) (h : (L.getD k zc).1 = 3) : clAt L (k : Int) = (k : Int) - 1 := by
  have e := kind_nat L k
  unfold clAt
  rw [if_neg (by rw [e]; omega), if_pos (by rw [e]; omega)]
/-- A cluster: where it begins, which it is, and that it has room. -/
theorem cl_some {L : List Cl} (hs : soundB L = true) {col : Int} (h : 0 ≤ clAt L col) : ∃ k : Nat, clAt L col = k ∧ k < L.length ∧ (((L.getD k zc).1 = 1 ∧ col = k) ∨ ((L.getD k zc).1 = 2 ∧ k + 1 < L.length ∧ (col = k ∨ (col = k + 1 ∧ (L.getD (k + 1) zc).1 = 3)))) ∧ 0 < (L.getD k zc).2.length ∧ (L.getD k zc).2.length ≤ 16 ∧ allValid (L.getD k zc).2 = true := by
  have hp := (sound_prop L).1 hs
  by_cases hb : col < 0 ∨ (L.length : Int) ≤ col ∨ kindAt L col = 0
  · rw [cl_none hb] at h; omega
  obtain ⟨j, rfl⟩ := Int.eq_ofNat_of_zero_le (show 0 ≤ col by omega)
  rw [kind_nat] at hb
  have hj : j < L.length := by omega
  obtain ⟨hr, h2, h3⟩ := hp j hj
  have hr0 := right_kinds hr
  by_cases h33 : (L.getD j zc).1 = 3
  · obtain ⟨h4, h5⟩ := h3 h33
    obtain ⟨hr', _, _⟩ := hp (j - 1) (by omega)
    have hr1 := right_kinds hr'
    refine ⟨j - 1, ?_, by omega, ?_, ?_⟩
    · rw [cl_back hj h33]; omega
    · exact .inr ⟨h5, by omega, .inr ⟨by omega, by rw [show j - 1 + 1 = j by omega]; exact h33⟩⟩
    · rcases hr1 with hr1 | hr1
      · omega
      · exact hr1.2
  · rcases hr0 with hr0 | hr0
    · omega
    · refine ⟨j, cl_self hj hr0.1, hj, ?_, hr0.2⟩
      rcases hr0.1 with e | e
      · exact .inl ⟨e, rfl⟩
      · refine .inr ⟨e, ?_, .inl rfl⟩
        have := h2 e
        by_cases hlt : j + 1 < L.length
        · exact hlt
        · rw [getD_ge L zc (j + 1) (by omega)] at this
          cases this
/-- A row, whether it goes on, and the answer, when a cluster was made longer. -/
def addL (L : List Cl) (wrap : Bool) (col x : Int) : List Cl × Bool × Bool :=
  if clAt L col < 0 ∨ 15 < (L.getD (clAt L col).toNat zc).2.length then (L, wrap, false)
  else (paintL L (ofC (L.getD (clAt L col).toNat zc).1 ((L.getD (clAt L col).toNat zc).2 ++ [x])) (clAt L col).toNat, wrap && !lastHit L (ofC (L.getD (clAt L col).toNat zc).1 ((L.getD (clAt L col).toNat zc).2 ++ [x])) (clAt L col).toNat, true)
def widL (L : List Cl) (wrap : Bool) (col : Int) : List Cl × Bool × Bool :=
  if col < 0 ∨ (L.length : Int) - 1 ≤ col ∨ kindAt L col ≠ 1 then (L, wrap, false)
  else (paintL L (ofC 2 (L.getD col.toNat zc).2) col.toNat, wrap && !lastHit L (ofC 2 (L.getD col.toNat zc).2) col.toNat, true)
theorem add_len (L : List Cl) (wrap : Bool) (col x : Int) : (addL L wrap col x).1.length = L.length := by
  unfold addL
  split
  · rfl
  · exact paint_len _ _ _
theorem wid_len (L : List Cl) (wrap : Bool) (col : Int) : (widL L wrap col).1.length = L.length := by
  unfold widL
  split
  · rfl
  · exact paint_len _ _ _
/-- What is painted 2 wide over what was painted 1 wide is as what is painted 2 wide at once. -/
theorem paint_over (L : List Cl) (t : List Int) (c : Nat) : paintL (paintL L [(1, t)] c) [(2, t), (3, [])] c = paintL L [(2, t), (3, [])] c := by
  apply List.ext_getElem?
  intro i
  by_cases hi : i < L.length
  · have e1 : ((paintL (paintL L [(1, t)] c) [(2, t), (3, [])] c).getD i zc) = ((paintL L [(2, t), (3, [])] c).getD i zc) := by
      rw [paint_get _ _ _ _ (by rw [paint_len]; exact hi), paint_get _ _ _ _ hi]
      unfold paintAt
      by_cases h1 : inP c [((2 : Int), t), (3, [])].length i
      · rw [if_pos h1, if_pos h1]
      · rw [if_neg h1, if_neg h1]
        have hq : (paintL L [(1, t)] c).getD i zc = if tornP L c 1 i then zc else L.getD i zc := by
          rw [paint_get _ _ _ _ hi]
          unfold paintAt
          rw [if_neg (by unfold inP at h1 ⊢; simp only [List.length_cons, List.length_nil] at h1 ⊢; omega)]
          rfl
        have ht1 : tornP L c 1 i ↔ (L.getD i zc).1 = 2 ∧ i + 1 = c := by
          unfold inP at h1
          simp only [List.length_cons, List.length_nil] at h1
          unfold tornP inP
          constructor
          · rintro (h | h)
            · exact ⟨h.1, by omega⟩
            · omega
          · rintro ⟨h, h'⟩
            exact .inl ⟨h, by omega⟩
        have ht2 : ∀ M : List Cl, tornP M c [((2 : Int), t), (3, [])].length i ↔ ((M.getD i zc).1 = 2 ∧ i + 1 = c) ∨ ((M.getD i zc).1 = 3 ∧ i = c + 2) := by
          intro M
          unfold inP at h1
          simp only [List.length_cons, List.length_nil] at h1
          unfold tornP inP
          simp only [List.length_cons, List.length_nil]
          constructor
          · rintro (h | h)
            · exact .inl ⟨h.1, by omega⟩
            · exact .inr ⟨h.1, by omega⟩
          · rintro (h | h)
            · exact .inl ⟨h.1, by omega⟩
            · exact .inr ⟨h.1, by omega⟩
        by_cases ht : tornP L c 1 i
        · rw [if_pos ht] at hq
          have h3 := ht1.1 ht
          rw [if_pos ((ht2 L).2 (.inl h3)), hq]
          split <;> rfl
        · rw [if_neg ht] at hq
          have h3 : tornP (paintL L [(1, t)] c) c [((2 : Int), t), (3, [])].length i ↔ tornP L c [((2 : Int), t), (3, [])].length i := by rw [ht2, ht2, hq]
          by_cases h4 : tornP L c [((2 : Int), t), (3, [])].length i
          · rw [if_pos h4, if_pos (h3.2 h4)]
          · rw [if_neg h4, if_neg (fun h => h4 (h3.1 h)), hq]
    have l1 : i < (paintL (paintL L [(1, t)] c) [(2, t), (3, [])] c).length := by rw [paint_len, paint_len]; exact hi
    have l2 : i < (paintL L [(2, t), (3, [])] c).length := by rw [paint_len]; exact hi
    simp only [List.getD, List.getElem?_eq_getElem l1, List.getElem?_eq_getElem l2, Option.getD_some] at e1
    rw [List.getElem?_eq_getElem l1, List.getElem?_eq_getElem l2, e1]
  · rw [List.getElem?_eq_none (by rw [paint_len, paint_len]; omega), List.getElem?_eq_none (by rw [paint_len]; omega)]
theorem paint_one_at (L : List Cl) (x : Cl) (c : Nat) (hc : c < L.length) : (paintL L [x] c).getD c zc = x := by
  rw [paint_get _ _ _ _ hc]
  unfold paintAt
  rw [if_pos (by unfold inP; simp)]
  simp
end Go.Proofs.YtomfclkldmmmgaaDoor
