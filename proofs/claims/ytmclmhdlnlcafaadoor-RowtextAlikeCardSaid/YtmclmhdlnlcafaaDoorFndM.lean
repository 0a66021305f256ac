/- Where a text stands in a strip, by cells and by items, is one place (30). -/
import Derived.Test.YtmclmhdlnlcafaaDoorTxtF
namespace Go.Proofs.YtmclmhdlnlcafaaDoor
open Go.RowKit Go.ChangeShapes Go.WideShapes
def gotF : List Cl → List Int → List Int → List Int
  | [], A, _ => A
  | c :: M, A, T => if c.2 = [] ∨ T.length ≤ A.length then A else gotF M (A ++ c.2) T
theorem got_full (M : List Cl) (A T : List Int) (h : T.length ≤ A.length) : gotF M A T = A := by
  cases M with
  | nil => rfl
  | cons c M => unfold gotF; rw [if_pos (.inr h)]
theorem got_pre (T : List Int) : ∀ (M : List Cl) (A : List Int), A <+: gotF M A T
  | [], A => List.prefix_refl A
  | c :: M, A => by
    unfold gotF
    split
    · exact List.prefix_refl A
    · exact (List.prefix_append A c.2).trans (got_pre T M (A ++ c.2))
theorem right_text0 {c : Cl} (h : rightB c = true) : ((c.1 = 0 ∨ c.1 = 3) ∧ c.2 = []) ∨ ((c.1 = 1 ∨ c.1 = 2) ∧ c.2 ≠ []) := by
  rcases right_kinds h with h | ⟨h1, h2, _⟩
  · exact .inl h
  · exact .inr ⟨h1, fun e => by rw [e] at h2; exact absurd h2 (by decide)⟩
theorem items_cons (c : Cl) (C : List Cl) : itemsL (c :: C) = itemOf c ++ itemsL C := by unfold itemsL; rw [List.flatMap_cons]
theorem eat_got : ∀ (C : List Cl) (A S : List Int), (∀ c ∈ C, rightB c = true) → (eatL C S = [] ↔ gotF (itemsL C) A (A ++ S) = A ++ S)
  | [], A, S, _ => by
    show S = [] ↔ A = A ++ S
    constructor
    · rintro rfl; simp
    · intro h; simpa using h.symm
  | c :: C, A, S, h => by
    by_cases hS : S = []
    · subst hS
      rw [List.append_nil, got_full _ A A (Nat.le_refl _)]
      show (if _ then _ else _) = _ ↔ _
      rw [if_pos (.inl rfl)]
      simp
    have ih := fun A' S' => eat_got C A' S' fun d hd => h d (List.mem_cons_of_mem _ hd)
    have hlen : ¬ (A ++ S).length ≤ A.length := by
      rw [List.length_append]
      have : 0 < S.length := List.length_pos_iff.2 hS
      omega
    rw [items_cons]
    obtain ⟨K, t⟩ := c
    rcases right_text0 (h _ (List.mem_cons_self ..)) with ⟨hk, ht⟩ | ⟨hk, ht⟩
    · simp only at hk ht
      subst ht
      rcases hk with rfl | rfl
      · have e1 : eatL ((0, []) :: C) S = S := by
          show (if _ then _ else _) = _
          rw [if_pos (.inr (.inl rfl))]
        have e2 : gotF (itemOf (0, []) ++ itemsL C) A (A ++ S) = A := by
          show (if _ then _ else _) = _
          rw [if_pos (.inl rfl)]
        rw [e1, e2]
        constructor
        · intro e; exact absurd e hS
        · intro e; simpa using e.symm
      · have e1 : eatL ((3, []) :: C) S = eatL C S := by
          show (if _ then _ else _) = _
          rw [if_neg (by simp [hS])]
          simp
        rw [e1]
        exact ih A S
    · simp only at hk ht
      have hi : itemOf (K, t) = [(K, t)] := by rcases hk with rfl | rfl <;> rfl
      have e2 : gotF (itemOf (K, t) ++ itemsL C) A (A ++ S) = gotF (itemsL C) (A ++ t) (A ++ S) := by
        rw [hi]
        show (if _ then _ else _) = _
        rw [if_neg (by rintro (e | e); exact ht e; exact hlen e)]
        rfl
      rw [e2]
      by_cases hp : S.length < t.length ∨ t ≠ S.take t.length
      · have e1 : eatL ((K, t) :: C) S = S := by
          show (if _ then _ else _) = _
          rw [if_pos]
          rcases hp with hp | hp
          · exact .inr (.inr (.inl hp))
          · exact .inr (.inr (.inr hp))
        rw [e1]
        constructor
        · intro e; exact absurd e hS
        · intro e
          exfalso
          have := got_pre (A ++ S) (itemsL C) (A ++ t)
          rw [e, List.prefix_append_right_inj] at this
          rcases hp with hp | hp
          · have := this.length_le; omega
          · exact hp (List.prefix_iff_eq_take.1 this)
      · have hp1 : ¬ S.length < t.length := fun e => hp (.inl e)
        have hp2 : t = S.take t.length := Classical.byContradiction fun e => hp (.inr e)
        have e1 : eatL ((K, t) :: C) S = eatL C (S.drop t.length) := by
          show (if _ then _ else _) = _
          rw [if_neg]
          rintro (e | e | e | e)
          · exact hS e
          · have e : K = 0 := e
            rcases hk with rfl | rfl <;> omega
          · exact hp1 e
          · exact e hp2
        rw [e1, ih (A ++ t) (S.drop t.length)]
        have : A ++ t ++ S.drop t.length = A ++ S := by
          rw [List.append_assoc]
          congr 1
          conv => lhs; arg 1; rw [hp2]
          exact List.take_append_drop _ _
        rw [this]
def rfindF (T : List Int) : List Cl → Int → Int
  | [], _ => -1
  | c :: M, col => if 0 < T.length ∧ gotF (c :: M) [] T = T then col else rfindF T M (col + c.1)
theorem begin_got {c : Cl} {C : List Cl} {T : List Int} (h : ∀ d ∈ c :: C, rightB d = true) (h3 : c.1 ≠ 3) : (beginB (c :: C) T = true) ↔ gotF (itemsL (c :: C)) [] T = T := by
  have := eat_got (c :: C) [] T h
  rw [List.nil_append] at this
  rw [← this]
  unfold beginB
  rw [if_neg (show ¬ ((c :: C).getD 0 zc).1 = 3 from h3), decide_eq_true_eq, List.length_eq_zero_iff]
theorem soundF_right : ∀ (C : List Cl) (b : Bool), soundF b C = true → ∀ d ∈ C, rightB d = true
  | [], _, _, d, hd => absurd hd (List.not_mem_nil)
  | c :: C, b, h, d, hd => by
    unfold soundF at h
    simp only [Bool.and_eq_true] at h
    rcases List.mem_cons.1 hd with rfl | hd
    · exact h.1.1
    · exact soundF_right C _ h.2 d hd
theorem find_items (T : List Int) (hT : T ≠ []) : ∀ (n : Nat) (C : List Cl) (k : Nat), C.length ≤ n → soundF false C = true → findF T C k = rfindF T (itemsL C) k := by
  have h0 : 0 < T.length := List.length_pos_iff.2 hT
  intro n
  induction n with
  | zero =>
    intro C k hl _
    have : C = [] := List.eq_nil_of_length_eq_zero (by omega)
    subst this
    rfl
  | succ n ih =>
    intro C k hl hs
    cases C with
    | nil => rfl
    | cons c C =>
      have hr := soundF_right _ _ hs
      unfold soundF at hs
      simp only [Bool.and_eq_true] at hs
      obtain ⟨⟨hr1, h3⟩, hs⟩ := hs
      obtain ⟨K, t⟩ := c
      have hk3 : K ≠ 3 := by
        rintro rfl
        simp at h3
      have hb := begin_got (T := T) hr hk3
      simp only [List.length_cons] at hl
      unfold findF
      by_cases hq : beginB ((K, t) :: C) T = true
      · rw [if_pos hq]
        have hq2 := hb.1 hq
        have hne : ∃ c2 M, itemsL ((K, t) :: C) = c2 :: M := by
          rw [items_cons]
          rcases right_text0 hr1 with ⟨hk, ht⟩ | ⟨hk, ht⟩
          · simp only at hk ht
            subst ht
            rcases hk with rfl | rfl
            · exact ⟨_, _, rfl⟩
            · exact absurd rfl hk3
          · simp only at hk
            rcases hk with rfl | rfl <;> exact ⟨_, _, rfl⟩
        obtain ⟨c2, M, e⟩ := hne
        rw [e] at hq2 ⊢
        unfold rfindF
        rw [if_pos ⟨h0, hq2⟩]
      · rw [if_neg hq]
        have hq2 : ¬ gotF (itemsL ((K, t) :: C)) [] T = T := fun e => hq (hb.2 e)
        rw [items_cons] at hq2 ⊢
        rcases right_text0 hr1 with ⟨hk, ht⟩ | ⟨hk, ht⟩
        · simp only at hk ht
          subst ht
          rcases hk with rfl | rfl
          · rw [show itemOf (0, []) ++ itemsL C = (1, []) :: itemsL C from rfl] at hq2 ⊢
            unfold rfindF
            rw [if_neg (fun h => hq2 h.2), ih C (k + 1) (by omega) hs]
            rfl
          · exact absurd rfl hk3
        · simp only at hk
          rcases hk with rfl | rfl
          · rw [show itemOf (1, t) ++ itemsL C = (1, t) :: itemsL C from rfl] at hq2 ⊢
            unfold rfindF
            rw [if_neg (fun h => hq2 h.2), ih C (k + 1) (by omega) hs]
            rfl
          · rw [show itemOf (2, t) ++ itemsL C = (2, t) :: itemsL C from rfl] at hq2 ⊢
            unfold rfindF
            rw [if_neg (fun h => hq2 h.2)]
            have hs : soundF true C = true := hs
            cases C with
            | nil => cases hs
            | cons d C =>
              unfold soundF at hs
              simp only [Bool.and_eq_true] at hs
              obtain ⟨⟨hd1, hd3⟩, hs⟩ := hs
              obtain ⟨K', t'⟩ := d
              have hk' : K' = 3 := by simpa using hd3
              subst hk'
              have hb3 : beginB ((3, t') :: C) T = false := by
                unfold beginB
                rw [if_pos (show (((3, t') :: C : List Cl).getD 0 zc).1 = 3 from rfl)]
              unfold findF
              rw [if_neg (by rw [hb3]; decide), items_cons, show itemOf (3, t') ++ itemsL C = itemsL C from rfl]
              simp only [List.length_cons] at hl
              rw [ih C (k + 1 + 1) (by omega) hs]
              rfl
theorem find_all {L : List Cl} (hs : soundB L = true) {T : List Int} (hT : T ≠ []) : findL L T = rfindF T (itemsL L) 0 := by
  unfold findL
  rw [if_neg hT]
  exact find_items T hT L.length L 0 (Nat.le_refl _) hs
theorem rfind_none (M : List Cl) : ∀ col, rfindF [] M col = -1 := by
  induction M with
  | nil => intro _; rfl
  | cons c M ih =>
    intro col
    unfold rfindF
    rw [if_neg (fun h => absurd h.1 (by decide))]
    exact ih _
theorem find_law {L : List Cl} (hs : soundB L = true) (T : List Int) : findL L T = rfindF T (itemsL L) 0 := by
  by_cases hT : T = []
  · subst hT
    rw [rfind_none]
    unfold findL
    rw [if_pos rfl]
  · exact find_all hs hT
end Go.Proofs.YtmclmhdlnlcafaaDoor
