/- What painting leaves. -/
import Derived.Test.YtomfclkldmmmgaaDoorCellM
namespace Go.Proofs.YtomfclkldmmmgaaDoor
open Go.RowKit Go.ChangeShapes Go.WideShapes
theorem sound_prop (L : List Cl) : soundB L = true ↔ ∀ i, i < L.length → rightB (L.getD i zc) = true ∧ ((L.getD i zc).1 = 2 → (L.getD (i + 1) zc).1 = 3) ∧ ((L.getD i zc).1 = 3 → 0 < i ∧ (L.getD (i - 1) zc).1 = 2) := by
  have hk1 : ∀ k : Nat, kindAt L ((k : Int) + 1) = (L.getD (k + 1) zc).1 := fun k => by
    unfold kindAt
    rw [if_neg (by omega), show ((k : Int) + 1).toNat = k + 1 by omega]
  have hk2 : ∀ k : Nat, kindAt L ((k : Int) - 1) = if k = 0 then 0 else (L.getD (k - 1) zc).1 := fun k => by
    unfold kindAt
    by_cases h : k = 0
    · subst h; rfl
    · rw [if_neg (by omega), if_neg h, show ((k : Int) - 1).toNat = k - 1 by omega]
  have one : ∀ i, okAt L i = true ↔ rightB (L.getD i zc) = true ∧ ((L.getD i zc).1 = 2 → (L.getD (i + 1) zc).1 = 3) ∧ ((L.getD i zc).1 = 3 → 0 < i ∧ (L.getD (i - 1) zc).1 = 2) := by
    intro i
    unfold okAt
    rw [hk1, hk2]
    simp only [Bool.and_eq_true, Bool.not_eq_true', Bool.and_eq_false_iff, bne_eq_false_iff_eq, beq_eq_false_iff_ne]
    constructor
    · rintro ⟨⟨h1, h2⟩, h3⟩
      refine ⟨h1, fun h => ?_, fun h => ?_⟩
      · rcases h2 with h2 | h2
        · exact absurd h h2
        · exact h2
      · rcases h3 with h3 | h3
        · exact absurd h h3
        · split at h3
          · cases h3
          · exact ⟨by omega, h3⟩
    · rintro ⟨h1, h2, h3⟩
      refine ⟨⟨h1, ?_⟩, ?_⟩
      · by_cases h : (L.getD i zc).1 = 2
        · exact .inr (h2 h)
        · exact .inl h
      · by_cases h : (L.getD i zc).1 = 3
        · obtain ⟨h4, h5⟩ := h3 h
          rw [if_neg (by omega)]
          exact .inr h5
        · exact .inl h
  rw [sound_iff]
  constructor
  · intro h i hi
    exact (one i).1 (okTo_at hi h)
  · intro h
    unfold okTo
    rw [List.all_eq_true]
    intro i hi
    exact (one i).2 (h i (List.mem_range.1 hi))
def inP (a m i : Nat) : Prop := a ≤ i ∧ i < a + m
instance (a m i : Nat) : Decidable (inP a m i) := by unfold inP; infer_instance
def tornP (L : List Cl) (a m i : Nat) : Prop := ((L.getD i zc).1 = 2 ∧ inP a m (i + 1)) ∨ ((L.getD i zc).1 = 3 ∧ 0 < i ∧ inP a m (i - 1))
instance (L : List Cl) (a m i : Nat) : Decidable (tornP L a m i) := by unfold tornP; infer_instance
def paintAt (L p : List Cl) (a i : Nat) : Cl := if inP a p.length i then p.getD (i - a) zc else if tornP L a p.length i then zc else L.getD i zc
def paintL (L p : List Cl) (a : Nat) : List Cl := (List.range L.length).map (paintAt L p a)
/-- Has the last place turned? -/
def lastHit (L p : List Cl) (a : Nat) : Bool := decide (inP a p.length (L.length - 1)) || decide (tornP L a p.length (L.length - 1))
theorem paint_len (L p : List Cl) (a : Nat) : (paintL L p a).length = L.length := by simp [paintL]
theorem paint_get (L p : List Cl) (a i : Nat) (h : i < L.length) : (paintL L p a).getD i zc = paintAt L p a i := by simp [paintL, List.getD, h]
theorem paint_none (L : List Cl) (a : Nat) : paintL L [] a = L := by
  apply List.ext_getElem
  · simp [paintL]
  · intro i h1 h2
    simp only [paintL, List.getElem_map, List.getElem_range]
    unfold paintAt
    have n1 : ¬ inP a ([] : List Cl).length i := by unfold inP; simp only [List.length_nil]; omega
    have n2 : ¬ tornP L a ([] : List Cl).length i := by unfold tornP inP; simp only [List.length_nil]; omega
    rw [if_neg n1, if_neg n2]
    simp [List.getD, List.getElem?_eq_getElem h2]
theorem lastHit_none (L : List Cl) (a : Nat) : lastHit L [] a = false := by
  have n1 : ¬ inP a ([] : List Cl).length (L.length - 1) := by unfold inP; simp only [List.length_nil]; omega
  have n2 : ¬ tornP L a ([] : List Cl).length (L.length - 1) := by unfold tornP inP; simp only [List.length_nil]; omega
  unfold lastHit
  rw [decide_eq_false n1, decide_eq_false n2]
  rfl
theorem paint_sound {L p : List Cl} {a : Nat} (hL : soundB L = true) (hp : soundB p = true) (hle : a + p.length ≤ L.length) : soundB (paintL L p a) = true := by
  rw [sound_prop] at hL hp ⊢
  rw [paint_len]
  intro i hi
  have out : ∀ j, L.length ≤ j → (paintL L p a).getD j zc = zc := fun j hj => getD_ge _ _ _ (by rw [paint_len]; exact hj)
  have outL : ∀ j, L.length ≤ j → L.getD j zc = zc := fun j hj => getD_ge _ _ _ hj
  have outp : ∀ j, p.length ≤ j → p.getD j zc = zc := fun j hj => getD_ge _ _ _ hj
  rw [paint_get L p a i hi]
  unfold paintAt
  by_cases hin : inP a p.length i
  · rw [if_pos hin]
    obtain ⟨h1, h2⟩ := hin
    obtain ⟨r1, r2, r3⟩ := hp (i - a) (by omega)
    refine ⟨r1, fun h => ?_, fun h => ?_⟩
    · have h3 := r2 h
      have h4 : i - a + 1 < p.length := by
        rcases Nat.lt_or_ge (i - a + 1) p.length with h | h
        · exact h
        · rw [outp _ h] at h3; cases h3
      rw [paint_get L p a (i + 1) (by omega)]
      unfold paintAt
      rw [if_pos ⟨by omega, by omega⟩, show i + 1 - a = i - a + 1 by omega]
      exact h3
    · obtain ⟨h3, h4⟩ := r3 h
      refine ⟨by omega, ?_⟩
      rw [paint_get L p a (i - 1) (by omega)]
      unfold paintAt
      rw [if_pos ⟨by omega, by omega⟩, show i - 1 - a = i - a - 1 by omega]
      exact h4
  · rw [if_neg hin]
    by_cases ht : tornP L a p.length i
    · rw [if_pos ht]
      exact ⟨by decide, fun h => absurd h (by decide), fun h => absurd h (by decide)⟩
    · rw [if_neg ht]
      obtain ⟨r1, r2, r3⟩ := hL i hi
      refine ⟨r1, fun h => ?_, fun h => ?_⟩
      · have h3 := r2 h
        have h4 : i + 1 < L.length := by
          rcases Nat.lt_or_ge (i + 1) L.length with h | h
          · exact h
          · rw [outL _ h] at h3; cases h3
        rw [paint_get L p a (i + 1) h4]
        unfold paintAt
        have n1 : ¬ inP a p.length (i + 1) := fun k => ht (.inl ⟨h, k⟩)
        have n2 : ¬ tornP L a p.length (i + 1) := by
          rintro (⟨k, _⟩ | ⟨_, _, k⟩)
          · rw [h3] at k; cases k
          · exact hin (by simpa using k)
        rw [if_neg n1, if_neg n2]
        exact h3
      · obtain ⟨h3, h4⟩ := r3 h
        refine ⟨h3, ?_⟩
        rw [paint_get L p a (i - 1) (by omega)]
        unfold paintAt
        have n1 : ¬ inP a p.length (i - 1) := fun k => ht (.inr ⟨h, h3, k⟩)
        have n2 : ¬ tornP L a p.length (i - 1) := by
          rintro (⟨_, k⟩ | ⟨k, _, _⟩)
          · exact hin (by rwa [show i - 1 + 1 = i by omega] at k)
          · rw [h4] at k; cases k
        rw [if_neg n1, if_neg n2]
        exact h4
/- Step by step. -/
def leadB (L : List Cl) (a : Nat) : Bool := decide (0 < a) && (L.getD (a - 1) zc).1 == 2
def tailB (L : List Cl) (e : Nat) : Bool := decide (e < L.length) && (L.getD e zc).1 == 3
def step1 (L : List Cl) (a : Nat) : List Cl := if leadB L a = true then L.set (a - 1) zc else L
def step2 (L : List Cl) (a m : Nat) : List Cl := if tailB L (a + m) = true then (step1 L a).set (a + m) zc else step1 L a
def step3 (L p : List Cl) (a k : Nat) : List Cl := (List.range L.length).map fun i => if inP a k i then p.getD (i - a) zc else (step2 L a p.length).getD i zc
theorem step1_len (L : List Cl) (a : Nat) : (step1 L a).length = L.length := by unfold step1; split <;> simp
theorem step2_len (L : List Cl) (a m : Nat) : (step2 L a m).length = L.length := by unfold step2; split <;> simp [step1_len]
theorem step3_len (L p : List Cl) (a k : Nat) : (step3 L p a k).length = L.length := by simp [step3]
theorem getD_set {α : Type} (l : List α) (d x : α) (i j : Nat) : (l.set i x).getD j d = if i = j ∧ j < l.length then x else l.getD j d := by
  simp only [List.getD, List.getElem?_set]
  split
  · rename_i h
    subst h
    by_cases h2 : i < l.length
    · simp [h2]
    · simp [h2]
  · rename_i h
    rw [if_neg (fun k => h k.1)]
theorem step1_at (L : List Cl) (a i : Nat) : (step1 L a).getD i zc = if leadB L a = true ∧ i = a - 1 then zc else L.getD i zc := by
  unfold step1
  split
  · rename_i h
    rw [getD_set]
    by_cases e : a - 1 = i
    · by_cases hl : i < L.length
      · rw [if_pos ⟨e, hl⟩, if_pos ⟨h, e.symm⟩]
      · rw [if_neg (fun k => hl k.2), getD_ge _ _ _ (by omega)]
        split <;> rfl
    · rw [if_neg (fun k => e k.1), if_neg (fun k => e k.2.symm)]
  · rename_i h
    rw [if_neg (fun k => h k.1)]
theorem step2_at (L : List Cl) (a m i : Nat) : (step2 L a m).getD i zc = if tailB L (a + m) = true ∧ i = a + m then zc else (step1 L a).getD i zc := by
  unfold step2
  split
  · rename_i h
    rw [getD_set, step1_len]
    by_cases e : a + m = i
    · by_cases hl : i < L.length
      · rw [if_pos ⟨e, hl⟩, if_pos ⟨h, e.symm⟩]
      · rw [if_neg (fun k => hl k.2), getD_ge (step1 L a) _ _ (by rw [step1_len]; omega)]
        split <;> rfl
    · rw [if_neg (fun k => e k.1), if_neg (fun k => e k.2.symm)]
  · rename_i h
    rw [if_neg (fun k => h k.1)]
theorem step3_zero (L p : List Cl) (a : Nat) : step3 L p a 0 = step2 L a p.length := by
  apply List.ext_getElem
  · simp [step3, step2_len]
  · intro i h1 h2
    simp only [step3, List.getElem_map, List.getElem_range]
    rw [if_neg (by unfold inP; omega)]
    simp [List.getD, List.getElem?_eq_getElem h2]
theorem step3_succ (L p : List Cl) (a k : Nat) : step3 L p a (k + 1) = (step3 L p a k).set (a + k) (p.getD k zc) := by
  apply List.ext_getElem
  · simp [step3]
  · intro i h1 h2
    rw [List.getElem_set]
    simp only [step3, List.getElem_map, List.getElem_range]
    by_cases e : a + k = i
    · subst e
      rw [if_pos rfl, if_pos ⟨by omega, by omega⟩, show a + k - a = k by omega]
    · rw [if_neg e]
      by_cases h : inP a k i
      · rw [if_pos h, if_pos ⟨h.1, by have := h.2; omega⟩]
      · rw [if_neg h, if_neg (fun k2 => h ⟨k2.1, by have := k2.2; omega⟩)]
theorem step3_all {L p : List Cl} {a : Nat} (hm : 0 < p.length) (hle : a + p.length ≤ L.length) : step3 L p a p.length = paintL L p a := by
  unfold step3 paintL
  apply List.map_congr_left
  intro i hi
  have hi : i < L.length := List.mem_range.1 hi
  unfold paintAt
  by_cases h : inP a p.length i
  · rw [if_pos h, if_pos h]
  · rw [if_neg h, if_neg h, step2_at, step1_at]
    by_cases ht : tornP L a p.length i
    · rw [if_pos ht]
      rcases ht with ⟨h1, h2, h3⟩ | ⟨h1, h2, h3, h4⟩
      · have e : i + 1 = a := by
          have : ¬ (a ≤ i ∧ i < a + p.length) := h
          omega
        have hl : leadB L a = true := by
          unfold leadB
          rw [show a - 1 = i by omega, h1, decide_eq_true (show 0 < a by omega)]
          rfl
        split
        · rfl
        · rw [if_pos ⟨hl, by omega⟩]
      · have e : i = a + p.length := by
          have : ¬ (a ≤ i ∧ i < a + p.length) := h
          omega
        have hl : tailB L (a + p.length) = true := by
          unfold tailB
          rw [← e, h1, decide_eq_true hi]
          rfl
        rw [if_pos ⟨hl, e⟩]
    · rw [if_neg ht]
      rw [if_neg, if_neg]
      · rintro ⟨h1, rfl⟩
        unfold leadB at h1
        simp only [Bool.and_eq_true, decide_eq_true_eq, beq_iff_eq] at h1
        exact ht (.inl ⟨h1.2, by unfold inP; omega⟩)
      · rintro ⟨h1, rfl⟩
        unfold tailB at h1
        simp only [Bool.and_eq_true, decide_eq_true_eq, beq_iff_eq] at h1
        exact ht (.inr ⟨h1.2, by omega, by unfold inP; omega⟩)
/-- The kinds that the second test reads. -/
theorem tail_kind {L : List Cl} {a m : Nat} (hm : 0 < m) : ((step1 L a).getD (a + m) zc).1 = (L.getD (a + m) zc).1 := by
  rw [step1_at, if_neg]
  rintro ⟨_, h⟩
  omega
def endN (L : List Cl) (a m : Nat) : Nat := if tailB L (a + m) = true then a + m + 1 else a + m
theorem end_last {L p : List Cl} {a : Nat} (hm : 0 < p.length) (hle : a + p.length ≤ L.length) : (decide (endN L a p.length = L.length)) = lastHit L p a := by
  unfold endN lastHit
  rw [Bool.eq_iff_iff]
  simp only [Bool.or_eq_true, decide_eq_true_eq]
  constructor
  · intro h
    split at h
    · rename_i ht
      unfold tailB at ht
      simp only [Bool.and_eq_true, decide_eq_true_eq, beq_iff_eq] at ht
      right
      refine .inr ⟨by rw [show L.length - 1 = a + p.length by omega]; exact ht.2, by omega, by unfold inP; omega⟩
    · exact .inl ⟨by omega, by omega⟩
  · rintro (⟨h1, h2⟩ | h)
    · rw [if_neg (by unfold tailB; simp; omega)]
      omega
    · by_cases hin : inP a p.length (L.length - 1)
      · obtain ⟨h1, h2⟩ := hin
        rw [if_neg (by unfold tailB; simp; omega)]
        omega
      · have hin' : ¬ (a ≤ L.length - 1 ∧ L.length - 1 < a + p.length) := hin
        rcases h with ⟨h1, h2, h3⟩ | ⟨h1, h2, h3, h4⟩
        · omega
        · have e : L.length - 1 = a + p.length := by omega
          rw [if_pos (by unfold tailB; rw [← e, h1, decide_eq_true (show L.length - 1 < L.length by omega)]; rfl)]
          omega
end Go.Proofs.YtomfclkldmmmgaaDoor
