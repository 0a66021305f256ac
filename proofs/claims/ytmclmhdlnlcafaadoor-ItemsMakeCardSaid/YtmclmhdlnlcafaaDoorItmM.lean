/- Items and strips tell one another (29). -/
import Derived.Test.YtmclmhdlnlcafaaDoorItemR
import Derived.Test.YtmclmhdlnlcafaaDoorMg1
namespace Go.Proofs.YtmclmhdlnlcafaaDoor
open Go.RowKit Go.ChangeShapes Go.WideShapes
def rightI (c : Cl) : Bool := if c.2.length = 0 then c.1 == 1 else (c.1 == 1 || c.1 == 2) && rightB (1, c.2)
def heldN (c : Cl) : Int := min (max c.1 1) 2
def wideTo (M : List Cl) : Nat → Int
  | 0 => 0
  | k + 1 => wideTo M k + heldN (M.getD k zc)
theorem wideTo_succ (M : List Cl) (k : Nat) : wideTo M (k + 1) = wideTo M k + heldN (M.getD k zc) := rfl
theorem held_one (c : Cl) : 1 ≤ heldN c ∧ heldN c ≤ 2 := by unfold heldN; omega
theorem wideTo_le (M : List Cl) : ∀ k, 0 ≤ wideTo M k ∧ wideTo M k ≤ 2 * k
  | 0 => ⟨Int.le_refl _, Int.le_refl _⟩
  | k + 1 => by
    have := wideTo_le M k
    have := held_one (M.getD k zc)
    rw [wideTo_succ]
    omega
def stripL (M : List Cl) : List Cl := M.flatMap fun c => ofC c.1 c.2
theorem strip_succ (M : List Cl) (k : Nat) (h : k < M.length) : stripL (M.take (k + 1)) = stripL (M.take k) ++ ofC (M.getD k zc).1 (M.getD k zc).2 := by
  unfold stripL
  rw [List.take_succ_eq_append_getElem h, List.flatMap_append]
  simp [List.getD, List.getElem?_eq_getElem h]
/-- What a right item's strip is. -/
theorem right_item {c : Cl} (h : rightI c = true) : (c = (1, []) ∧ ofC c.1 c.2 = [zc]) ∨ (c.1 = 1 ∧ 0 < c.2.length ∧ rightB (1, c.2) = true ∧ ofC c.1 c.2 = [(1, c.2)]) ∨ (c.1 = 2 ∧ 0 < c.2.length ∧ rightB (1, c.2) = true ∧ ofC c.1 c.2 = [(2, c.2), (3, [])]) := by
  obtain ⟨K, t⟩ := c
  unfold rightI at h
  simp only at h ⊢
  by_cases h0 : t.length = 0
  · rw [if_pos h0] at h
    have : t = [] := List.eq_nil_of_length_eq_zero h0
    subst this
    have : K = 1 := by simpa using h
    subst this
    exact .inl ⟨rfl, by decide⟩
  · rw [if_neg h0, Bool.and_eq_true] at h
    obtain ⟨h1, h2⟩ := h
    have hr := right_kinds h2
    have ht : t.length ≤ 16 ∧ allValid t = true := by
      rcases hr with ⟨e, _⟩ | ⟨_, _, h3, h4⟩
      · simp at e
      · exact ⟨h3, h4⟩
    have ho := ofC_text (wide := K) (t := t) (by omega) ht.1
    rw [map_valid ht.2] at ho
    rw [Bool.or_eq_true, beq_iff_eq, beq_iff_eq] at h1
    rcases h1 with rfl | rfl
    · exact .inr (.inl ⟨rfl, by omega, h2, by rw [ho]; rfl⟩)
    · exact .inr (.inr ⟨rfl, by omega, h2, by rw [ho]; rfl⟩)
theorem right_two {t : List Int} (h0 : 0 < t.length) (h : rightB (1, t) = true) : rightB (2, t) = true := by
  rcases right_kinds h with ⟨e, _⟩ | ⟨_, _, h3, h4⟩
  · simp at e
  · rw [right_text (.inr rfl), h4]
    simp only [Bool.and_true, Bool.and_eq_true, decide_eq_true_eq]
    exact ⟨h0, h3⟩
theorem strip_all (M : List Cl) (h : ∀ k, k < M.length → rightI (M.getD k zc) = true) : ∀ k, k ≤ M.length → soundB (stripL (M.take k)) = true ∧ itemsL (stripL (M.take k)) = M.take k ∧ ((stripL (M.take k)).length : Int) = wideTo M k
  | 0, _ => ⟨rfl, rfl, rfl⟩
  | k + 1, hk => by
    obtain ⟨h1, h2, h3⟩ := strip_all M h k (by omega)
    have hr := right_item (h k (by omega))
    have ht : M.take (k + 1) = M.take k ++ [M.getD k zc] := by
      rw [List.take_succ_eq_append_getElem (by omega)]
      simp [List.getD, List.getElem?_eq_getElem (show k < M.length by omega)]
    rw [strip_succ M k (by omega), wideTo_succ, ← h3, ht]
    obtain ⟨c, hc⟩ : ∃ c, c = M.getD k zc := ⟨_, rfl⟩
    rw [← hc] at hr ⊢
    have hap : ∀ x, itemsL (stripL (M.take k) ++ x) = M.take k ++ itemsL x := fun x => by
      have : itemsL (stripL (M.take k) ++ x) = itemsL (stripL (M.take k)) ++ itemsL x := by unfold itemsL; rw [List.flatMap_append]
      rw [this, h2]
    rw [hap]
    rcases hr with ⟨e, ho⟩ | ⟨e, _, hb, ho⟩ | ⟨e, h0, hb, ho⟩
    · rw [ho]
      refine ⟨sound_app h1 (by decide), by rw [e]; rfl, by rw [e]; rw [List.length_append]; show ((_ + 1 : Nat) : Int) = _ + 1; omega⟩
    · rw [ho]
      obtain ⟨K, t⟩ := c
      simp only at e hb
      subst e
      refine ⟨sound_app h1 (by unfold soundB soundF; rw [hb]; rfl), rfl, by rw [List.length_append]; show ((_ + 1 : Nat) : Int) = _ + 1; omega⟩
    · rw [ho]
      obtain ⟨K, t⟩ := c
      simp only at e hb h0
      subst e
      refine ⟨sound_app h1 (by unfold soundB soundF; rw [right_two h0 hb]; rfl), rfl, by rw [List.length_append]; show ((_ + 2 : Nat) : Int) = _ + 2; omega⟩
/-- .. and back. -/
theorem items_strip : ∀ (n : Nat) (L : List Cl), L.length ≤ n → soundB L = true → (∀ c ∈ itemsL L, rightI c = true) ∧ stripL (itemsL L) = L := by
  intro n
  induction n with
  | zero =>
    intro L hl _
    have : L = [] := List.eq_nil_of_length_eq_zero (by omega)
    subst this
    exact ⟨fun c hc => absurd hc (List.not_mem_nil), rfl⟩
  | succ n ih =>
    intro L hl hs
    cases L with
    | nil => exact ⟨fun c hc => absurd hc (List.not_mem_nil), rfl⟩
    | cons c L =>
      unfold soundB soundF at hs
      simp only [Bool.and_eq_true] at hs
      obtain ⟨⟨hr1, h3⟩, hs⟩ := hs
      simp only [List.length_cons] at hl
      have hi : itemsL (c :: L) = itemOf c ++ itemsL L := by unfold itemsL; rw [List.flatMap_cons]
      have hst : ∀ (x : Cl) (M : List Cl), stripL (x :: M) = ofC x.1 x.2 ++ stripL M := fun x M => by unfold stripL; rw [List.flatMap_cons]
      obtain ⟨K, t⟩ := c
      rcases right_kinds hr1 with ⟨hk, ht⟩ | ⟨hk, h0, h16, hv⟩
      · simp only at hk ht
        subst ht
        rcases hk with rfl | rfl
        · obtain ⟨i1, i2⟩ := ih L (by omega) hs
          rw [hi, show itemOf (0, []) ++ itemsL L = (1, []) :: itemsL L from rfl, hst, i2]
          refine ⟨fun c hc => ?_, by rw [show ofC 1 [] = [zc] from by decide]; rfl⟩
          rcases List.mem_cons.1 hc with rfl | hc
          · rfl
          · exact i1 c hc
        · simp at h3
      · simp only at hk h0 h16 hv
        have ho := fun (wide : Int) => ofC_text (wide := wide) (t := t) h0 h16
        rw [map_valid hv] at ho
        have hri : ∀ x : Int, x = 1 ∨ x = 2 → rightI (x, t) = true := fun x hx => by
          unfold rightI
          rw [if_neg (by simp only; omega)]
          have : rightB (1, t) = true := by
            rw [right_text (.inl rfl), hv]
            simp only [Bool.and_true, Bool.and_eq_true, decide_eq_true_eq]
            exact ⟨h0, h16⟩
          rw [this]
          rcases hx with rfl | rfl <;> rfl
        rcases hk with rfl | rfl
        · obtain ⟨i1, i2⟩ := ih L (by omega) hs
          rw [hi, show itemOf (1, t) ++ itemsL L = (1, t) :: itemsL L from rfl, hst, i2]
          refine ⟨fun c hc => ?_, by rw [ho]; rfl⟩
          rcases List.mem_cons.1 hc with rfl | hc
          · exact hri 1 (.inl rfl)
          · exact i1 c hc
        · have hs : soundF true L = true := hs
          cases L with
          | nil => cases hs
          | cons d L =>
            unfold soundF at hs
            simp only [Bool.and_eq_true] at hs
            obtain ⟨⟨hd1, hd3⟩, hs⟩ := hs
            obtain ⟨K', t'⟩ := d
            have hk' : K' = 3 := by simpa using hd3
            subst hk'
            have ht' : t' = [] := by
              rcases right_kinds hd1 with ⟨_, e⟩ | ⟨e, _⟩
              · exact e
              · simp at e
            subst ht'
            simp only [List.length_cons] at hl
            obtain ⟨i1, i2⟩ := ih L (by omega) hs
            have hi2 : itemsL ((2, t) :: (3, []) :: L) = (2, t) :: itemsL L := rfl
            rw [hi2, hst, i2]
            refine ⟨fun c hc => ?_, by rw [ho]; rfl⟩
            rcases List.mem_cons.1 hc with rfl | hc
            · exact hri 2 (.inr rfl)
            · exact i1 c hc
theorem items_of_sound {L : List Cl} (hs : soundB L = true) : (∀ k, k < (itemsL L).length → rightI ((itemsL L).getD k zc) = true) ∧ stripL (itemsL L) = L ∧ wideTo (itemsL L) (itemsL L).length = L.length := by
  obtain ⟨h1, h2⟩ := items_strip L.length L (Nat.le_refl _) hs
  have h3 : ∀ k, k < (itemsL L).length → rightI ((itemsL L).getD k zc) = true := fun k hk => h1 _ (by
    rw [List.getD_eq_getElem?_getD, List.getElem?_eq_getElem hk]
    exact List.getElem_mem hk)
  refine ⟨h3, h2, ?_⟩
  have := (strip_all _ h3 _ (Nat.le_refl _)).2.2
  rw [List.take_length, h2] at this
  exact this.symm
end Go.Proofs.YtmclmhdlnlcafaaDoor
