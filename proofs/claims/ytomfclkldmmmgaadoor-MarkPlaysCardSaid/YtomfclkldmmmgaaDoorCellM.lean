/- Cells: what the document says of them. -/
import Derived.Test.YtomfclkldmmmgaaDoorRepl
namespace Go.Proofs.YtomfclkldmmmgaaDoor
open Go.RowKit Go.ChangeShapes Go.WideShapes
/-- A cell: its kind, its numbers. -/
abbrev Cl := Int × List Int
abbrev zc : Cl := (0, [])
def allValid (t : List Int) : Bool := t.all validB
def rightB (c : Cl) : Bool := if c.1 == 0 || c.1 == 3 then c.2.length == 0 else (c.1 == 1 || c.1 == 2) && decide (0 < c.2.length) && decide (c.2.length ≤ 16) && allValid c.2
def soundF (lead : Bool) : List Cl → Bool
  | [] => !lead
  | c :: l => rightB c && (lead == (c.1 == 3)) && soundF (c.1 == 2) l
def soundB (l : List Cl) : Bool := soundF false l
/-- The kind of a place, 0 outside. -/
def kindAt (l : List Cl) (i : Int) : Int := if i < 0 then 0 else (l.getD i.toNat zc).1
def okAt (l : List Cl) (i : Nat) : Bool := rightB (l.getD i zc) && !((l.getD i zc).1 == 2 && kindAt l ((i : Int) + 1) != 3) && !((l.getD i zc).1 == 3 && kindAt l ((i : Int) - 1) != 2)
def okTo (l : List Cl) (n : Nat) : Bool := (List.range n).all (okAt l)
theorem okTo_succ (l : List Cl) (n : Nat) : okTo l (n + 1) = (okTo l n && okAt l n) := by unfold okTo; rw [List.range_succ]; simp
theorem okTo_not {l : List Cl} {k n : Nat} (hk : k < n) (h : okAt l k = false) : okTo l n = false := by
  cases hc : okTo l n with
  | false => rfl
  | true =>
    unfold okTo at hc
    rw [List.all_eq_true] at hc
    rw [hc k (List.mem_range.2 hk)] at h
    cases h
theorem okTo_at {l : List Cl} {k n : Nat} (hk : k < n) (h : okTo l n = true) : okAt l k = true := by
  unfold okTo at h
  rw [List.all_eq_true] at h
  exact h k (List.mem_range.2 hk)
/-- The state ahead of place k. -/
def leadAt (l : List Cl) (k : Nat) : Bool := if k = 0 then false else (l.getD (k - 1) zc).1 == 2
def soundAt (l : List Cl) (k : Nat) : Bool := rightB (l.getD k zc) && (leadAt l k == ((l.getD k zc).1 == 3))
theorem leadAt_succ (l : List Cl) (k : Nat) : leadAt l (k + 1) = ((l.getD k zc).1 == 2) := by unfold leadAt; rw [if_neg (by omega)]; rfl
theorem soundF_drop (l : List Cl) (k : Nat) (hk : k < l.length) : soundF (leadAt l k) (l.drop k) = (soundAt l k && soundF (leadAt l (k + 1)) (l.drop (k + 1))) := by
  rw [List.drop_eq_getElem_cons hk, leadAt_succ]
  unfold soundAt
  have e : l.getD k zc = l[k] := by simp [List.getD, List.getElem?_eq_getElem hk]
  rw [e]
  rfl
theorem soundB_bad {l : List Cl} {k : Nat} (hk : k < l.length) (hp : soundF (leadAt l k) (l.drop k) = soundB l) (h : soundAt l k = false) : soundB l = false := by
  rw [← hp, soundF_drop l k hk, h]; rfl
theorem soundB_next {l : List Cl} {k : Nat} (hk : k < l.length) (hp : soundF (leadAt l k) (l.drop k) = soundB l) (h : soundAt l k = true) : soundF (leadAt l (k + 1)) (l.drop (k + 1)) = soundB l := by
  rw [← hp, soundF_drop l k hk, h]; rfl
theorem soundB_end {l : List Cl} (hp : soundF (leadAt l l.length) (l.drop l.length) = soundB l) : soundB l = !leadAt l l.length := by
  rw [← hp, List.drop_length]; rfl
theorem getD_ge {α : Type} (l : List α) (d : α) (k : Nat) (h : l.length ≤ k) : l.getD k d = d := by simp [List.getD, List.getElem?_eq_none h]
/-- Both ways to say it are one. -/
theorem sound_iff (l : List Cl) : soundB l = okTo l l.length := by
  have key : ∀ n, n ≤ l.length → ((∀ k, k < n → soundAt l k = true) ∧ leadAt l n = false ↔ (∀ k, k < n → okAt l k = true) ∧ (0 < n → n < l.length → (l.getD n zc).1 ≠ 3 → True) ∧ (∀ k, k < n → True) ∧ (leadAt l n = false)) ∨ True := fun _ _ => .inr trivial
  clear key
  -- by induction: all places up to n are sound just if all are so, but for what a lead at n - 1 awaits
  have ind : ∀ n, n ≤ l.length → ((∀ k, k < n → soundAt l k = true) ↔ (∀ k, k < n → rightB (l.getD k zc) = true) ∧ (∀ k, k + 1 < n → ((l.getD k zc).1 == 2) = ((l.getD (k + 1) zc).1 == 3)) ∧ (0 < n → ((l.getD 0 zc).1 == 3) = false)) := by
    intro n hn
    induction n with
    | zero => simp
    | succ n ih =>
      have ih := ih (by omega)
      constructor
      · intro h
        obtain ⟨h1, h2, h3⟩ := ih.1 fun k hk => h k (by omega)
        have hn1 := h n (by omega)
        unfold soundAt at hn1
        simp only [Bool.and_eq_true, beq_iff_eq] at hn1
        refine ⟨fun k hk => ?_, fun k hk => ?_, fun _ => ?_⟩
        · rcases Nat.lt_or_ge k n with h4 | h4
          · exact h1 k h4
          · obtain rfl : k = n := by omega
            exact hn1.1
        · rcases Nat.lt_or_ge (k + 1) n with h4 | h4
          · exact h2 k h4
          · obtain rfl : n = k + 1 := by omega
            rw [← leadAt_succ]; exact hn1.2
        · rcases Nat.eq_zero_or_pos n with h4 | h4
          · subst h4
            have := hn1.2
            unfold leadAt at this
            rw [if_pos rfl] at this
            exact this.symm
          · exact h3 h4
      · rintro ⟨h1, h2, h3⟩ k hk
        rcases Nat.lt_or_ge k n with h4 | h4
        · exact (ih.2 ⟨fun k hk => h1 k (by omega), fun k hk => h2 k (by omega), fun h => h3 (by omega)⟩) k h4
        · obtain rfl : k = n := by omega
          unfold soundAt
          rw [h1 k (by omega)]
          simp only [Bool.true_and, beq_iff_eq]
          cases k with
          | zero => unfold leadAt; rw [if_pos rfl, h3 (by omega)]
          | succ k => rw [leadAt_succ]; exact h2 k (by omega)
  have hs : soundB l = true ↔ (∀ k, k < l.length → soundAt l k = true) ∧ leadAt l l.length = false := by
    have step : ∀ m k, l.length - k = m → k ≤ l.length → (soundF (leadAt l k) (l.drop k) = true ↔ (∀ j, k ≤ j → j < l.length → soundAt l j = true) ∧ leadAt l l.length = false) := by
      intro m
      induction m with
      | zero =>
        intro k hm hk
        obtain rfl : k = l.length := by omega
        rw [List.drop_length]
        unfold soundF
        constructor
        · intro h; exact ⟨fun j h1 h2 => by omega, by simpa using h⟩
        · rintro ⟨_, h⟩; simpa using h
      | succ m ih =>
        intro k hm hk
        rw [soundF_drop l k (by omega), Bool.and_eq_true, ih (k + 1) (by omega) (by omega)]
        constructor
        · rintro ⟨h1, h2, h3⟩
          refine ⟨fun j h4 h5 => ?_, h3⟩
          rcases Nat.eq_or_lt_of_le h4 with h6 | h6
          · subst h6; exact h1
          · exact h2 j h6 h5
        · rintro ⟨h1, h2⟩
          exact ⟨h1 k (Nat.le_refl _) (by omega), fun j h3 h4 => h1 j (by omega) h4, h2⟩
    have := step l.length 0 (by omega) (Nat.zero_le _)
    rw [show soundB l = soundF (leadAt l 0) (l.drop 0) from rfl, this]
    constructor
    · rintro ⟨h1, h2⟩; exact ⟨fun k hk => h1 k (Nat.zero_le _) hk, h2⟩
    · rintro ⟨h1, h2⟩; exact ⟨fun k _ hk => h1 k hk, h2⟩
  have hr : okTo l l.length = true ↔ ∀ k, k < l.length → okAt l k = true := by
    constructor
    · intro h k hk; exact okTo_at hk h
    · intro h
      unfold okTo
      rw [List.all_eq_true]
      intro k hk
      exact h k (List.mem_range.1 hk)
  have hk1 : ∀ k : Nat, kindAt l ((k : Int) + 1) = (l.getD (k + 1) zc).1 := fun k => by
    unfold kindAt
    rw [if_neg (by omega), show ((k : Int) + 1).toNat = k + 1 by omega]
  have hk2 : ∀ k : Nat, kindAt l ((k : Int) - 1) = if k = 0 then 0 else (l.getD (k - 1) zc).1 := fun k => by
    unfold kindAt
    by_cases h : k = 0
    · subst h; rfl
    · rw [if_neg (by omega), if_neg h, show ((k : Int) - 1).toNat = k - 1 by omega]
  rw [Bool.eq_iff_iff, hs, hr, ind l.length (Nat.le_refl _)]
  constructor
  · rintro ⟨⟨h1, h2, h3⟩, h4⟩ k hk
    unfold okAt
    rw [h1 k hk, hk1, hk2]
    simp only [Bool.true_and, Bool.and_eq_true, Bool.not_eq_true', Bool.and_eq_false_iff, bne_eq_false_iff_eq, beq_eq_false_iff_ne]
    refine ⟨?_, ?_⟩
    · by_cases h5 : (l.getD k zc).1 = 2
      · right
        rcases Nat.lt_or_ge (k + 1) l.length with h6 | h6
        · have := h2 k h6
          rw [h5] at this
          simpa using this.symm
        · exfalso
          have h7 : leadAt l (k + 1) = true := by rw [leadAt_succ, h5]; rfl
          rw [show k + 1 = l.length by omega, h4] at h7
          cases h7
      · exact .inl h5
    · by_cases h5 : (l.getD k zc).1 = 3
      · right
        cases k with
        | zero =>
          have := h3 hk
          rw [h5] at this
          cases this
        | succ k =>
          have := h2 k hk
          rw [h5] at this
          rw [if_neg (by omega)]
          simpa using this
      · exact .inl h5
  · intro h
    have hx : ∀ k, k < l.length → rightB (l.getD k zc) = true ∧ ((l.getD k zc).1 = 2 → (l.getD (k + 1) zc).1 = 3) ∧ ((l.getD k zc).1 = 3 → k ≠ 0 ∧ (l.getD (k - 1) zc).1 = 2) := by
      intro k hk
      have h1 := h k hk
      unfold okAt at h1
      rw [hk1, hk2] at h1
      simp only [Bool.and_eq_true, Bool.not_eq_true', Bool.and_eq_false_iff, bne_eq_false_iff_eq, beq_eq_false_iff_ne] at h1
      obtain ⟨⟨h1, h2⟩, h3⟩ := h1
      refine ⟨h1, fun h4 => ?_, fun h4 => ?_⟩
      · rcases h2 with h2 | h2
        · exact absurd h4 h2
        · exact h2
      · rcases h3 with h3 | h3
        · exact absurd h4 h3
        · split at h3
          · cases h3
          · exact ⟨by assumption, h3⟩
    refine ⟨⟨fun k hk => (hx k hk).1, fun k hk => ?_, fun h0 => ?_⟩, ?_⟩
    · rw [Bool.eq_iff_iff, beq_iff_eq, beq_iff_eq]
      exact ⟨(hx k (by omega)).2.1, fun h4 => ((hx (k + 1) hk).2.2 h4).2⟩
    · rw [beq_eq_false_iff_ne]
      intro h4
      exact ((hx 0 h0).2.2 h4).1 rfl
    · unfold leadAt
      split
      · rfl
      · rename_i hne
        rw [beq_eq_false_iff_ne]
        intro h4
        have h5 := (hx (l.length - 1) (by omega)).2.1 h4
        rw [show l.length - 1 + 1 = l.length by omega, getD_ge _ _ _ (Nat.le_refl _)] at h5
        cases h5
def textL (l : List Cl) : List Int := l.flatMap (·.2)
def sameC (a b : List Cl) : Bool := decide (a = b)
/-- The strip of a cluster. -/
def ofC (wide : Int) (text : List Int) : List Cl :=
  let t := (text.take 16).map repl
  if t.length = 0 then (if 2 ≤ wide then [zc, zc] else [zc]) else if 2 ≤ wide then [(2, t), (3, [])] else [(1, t)]
end Go.Proofs.YtomfclkldmmmgaaDoor
