/- Spans of tables: sorted; whose is a number. Plain mathematics. -/
import Derived.Test.YtgoeacmpphmnoaaSpanP
import Derived.Test.YtgoeacmpphmnoaaTabH
namespace Go.Proofs.Ytgoeacmpphmnoaa
open Go.RowKit Go.ChangeShapes Go.WideShapes
theorem rise {T : List Sp} (hr : rightN T T.length = true) {i j : Nat} (hij : i < j) (hj : j < T.length) : (T.getD i z3).1 < (T.getD j z3).1 := by
  have a := right_at hr (show i < T.length by omega)
  have b := right_at hr hj
  have c := hi_mono hr i (j - 1) (by omega) (by omega)
  have d : lastOf T j = (T.getD (j - 1) z3).2.1 := by unfold lastOf; rw [if_neg (by omega)]
  omega
theorem mem_at {T : List Sp} {s : Sp} (h : s ∈ T) : ∃ i, i < T.length ∧ T.getD i z3 = s := by
  obtain ⟨i, hi, e⟩ := List.getElem_of_mem h
  exact ⟨i, hi, by simp [List.getD, List.getElem?_eq_getElem hi, e]⟩
theorem at_mem {T : List Sp} {i : Nat} (h : i < T.length) : T.getD i z3 ∈ T := by
  simp only [List.getD, List.getElem?_eq_getElem h, Option.getD_some]
  exact List.getElem_mem h
def upS (l : List Sp) : Prop := ∀ i j, i < j → j < l.length → (l.getD i z3).1 ≤ (l.getD j z3).1
theorem upS_tail {a : Sp} {A : List Sp} (h : upS (a :: A)) : upS A ∧ ∀ t ∈ A, a.1 ≤ t.1 := by
  refine ⟨fun i j hij hj => h (i + 1) (j + 1) (by omega) (by simp; omega), fun t ht => ?_⟩
  obtain ⟨i, hi, e⟩ := mem_at ht
  have := h 0 (i + 1) (by omega) (by simp; omega)
  rw [show (a :: A).getD (i + 1) z3 = t from e] at this
  exact this
theorem sorted_one : ∀ (A B : List Sp), A.Perm B → upS A → upS B → (∀ s ∈ B, ∀ t ∈ B, s.1 = t.1 → s = t) → A = B
  | [], B, hp, _, _, _ => (List.nil_perm.1 hp).symm
  | a :: A, [], hp, _, _, _ => by have := hp.length_eq; simp at this
  | a :: A, b :: B, hp, hA, hB, hk => by
    obtain ⟨hA1, hA2⟩ := upS_tail hA
    obtain ⟨hB1, hB2⟩ := upS_tail hB
    have ha : a ∈ b :: B := hp.subset (by simp)
    have hb : b ∈ a :: A := hp.symm.subset (by simp)
    have e : a = b := by
      refine hk a ha b (by simp) ?_
      have h1 : a.1 ≤ b.1 := by
        rcases List.mem_cons.1 hb with rfl | h
        · exact Int.le_refl _
        · exact hA2 b h
      have h2 : b.1 ≤ a.1 := by
        rcases List.mem_cons.1 ha with rfl | h
        · exact Int.le_refl _
        · exact hB2 a h
      omega
    subst e
    rw [sorted_one A B (List.Perm.cons_inv hp) hA1 hB1 (fun s hs t ht => hk s (by simp [hs]) t (by simp [ht]))]
theorem sorted_right {A B : List Sp} (hp : A.Perm B) (hA : upS A) (hB : rightN B B.length = true) : A = B := by
  refine sorted_one A B hp hA (fun i j hij hj => by have := rise hB hij hj; omega) fun s hs t ht e => ?_
  obtain ⟨i, hi, rfl⟩ := mem_at hs
  obtain ⟨j, hj, rfl⟩ := mem_at ht
  rcases Nat.lt_trichotomy i j with h | h | h
  · have := rise hB h hj; omega
  · subst h; rfl
  · have := rise hB h hi; omega
def insS (s : Sp) : List Sp → List Sp
  | [] => [s]
  | t :: T => if s.1 ≤ t.1 then s :: t :: T else t :: insS s T
def sortS : List Sp → List Sp
  | [] => []
  | s :: T => insS s (sortS T)
theorem ins_perm (s : Sp) : ∀ T, (insS s T).Perm (s :: T)
  | [] => .refl _
  | t :: T => by
    unfold insS
    split
    · exact .refl _
    · exact ((ins_perm s T).cons t).trans (.swap s t T)
theorem sortS_perm : ∀ T, (sortS T).Perm T
  | [] => .refl _
  | s :: T => (ins_perm s (sortS T)).trans ((sortS_perm T).cons s)
def tabSp (val : Int) (T : List (Int × Int)) : List Sp := T.map fun p => (p.1, p.2, val)
def tabSpans : List (List (Int × Int)) → Int → List Sp
  | [], _ => []
  | T :: Ts, n => tabSp n T ++ tabSpans Ts (n + 1)
theorem mem_tabs {s : Sp} : ∀ {Ts : List (List (Int × Int))} {n : Int}, s ∈ tabSpans Ts n → ∃ T ∈ Ts, (s.1, s.2.1) ∈ T
  | [], _, h => by simp [tabSpans] at h
  | T :: Ts, n, h => by
    unfold tabSpans at h
    rcases List.mem_append.1 h with h | h
    · obtain ⟨p, hp, rfl⟩ := List.mem_map.1 h
      exact ⟨T, by simp, hp⟩
    · obtain ⟨U, hU, h2⟩ := mem_tabs h
      exact ⟨U, by simp [hU], h2⟩
theorem tabs_mem {p : Int × Int} : ∀ {Ts : List (List (Int × Int))} {n : Int} {k : Nat}, k < Ts.length → p ∈ Ts.getD k [] → (p.1, p.2, n + k) ∈ tabSpans Ts n
  | [], _, k, h, _ => absurd h (Nat.not_lt_zero _)
  | T :: Ts, n, 0, _, hp => by
    unfold tabSpans
    exact List.mem_append.2 (.inl (List.mem_map.2 ⟨p, hp, by simp⟩))
  | T :: Ts, n, k + 1, h, hp => by
    unfold tabSpans
    have := tabs_mem (Ts := Ts) (n := n + 1) (k := k) (by simpa using h) hp
    rw [show n + ((k + 1 : Nat) : Int) = n + 1 + k by push_cast; omega]
    exact List.mem_append.2 (.inr this)
theorem ofI_cases (r : Int) : ∀ (Ts : List (List (Int × Int))) (n : Int), ((∀ d, ofI Ts n r d = d) ∧ ∀ T ∈ Ts, inTab T r = false) ∨ ∃ k, k < Ts.length ∧ inTab (Ts.getD k []) r = true ∧ ∀ d, ofI Ts n r d = n + k
  | [], n => .inl ⟨fun _ => rfl, by simp⟩
  | T :: Ts, n => by
    cases h : inTab T r with
    | true => exact .inr ⟨0, by simp, h, fun d => by unfold ofI; rw [if_pos h]; simp⟩
    | false =>
      rcases ofI_cases r Ts (n + 1) with ⟨h1, h2⟩ | ⟨k, h1, h2, h3⟩
      · refine .inl ⟨fun d => by unfold ofI; rw [h, if_neg (by decide)]; exact h1 d, fun U hU => ?_⟩
        rcases List.mem_cons.1 hU with rfl | hU
        · exact h
        · exact h2 U hU
      · exact .inr ⟨k + 1, by simpa using h1, h2, fun d => by unfold ofI; rw [h, if_neg (by decide), h3 d]; push_cast; omega⟩
/-- Whose a number is. -/
theorem tab_find {Ts : List (List (Int × Int))} {S : List Sp} (hS : S.Perm (tabSpans Ts 1)) (hr : rightN S S.length = true) (r : Int) :
    (findS S r = 0 ∧ (∀ d, ofI Ts 1 r d = d) ∧ ∀ T ∈ Ts, inTab T r = false) ∨ ∃ k, k < Ts.length ∧ inTab (Ts.getD k []) r = true ∧ findS S r = 1 + k ∧ ∀ d, ofI Ts 1 r d = 1 + k := by
  rcases ofI_cases r Ts 1 with ⟨h1, h2⟩ | ⟨k, h1, h2, h3⟩
  · refine .inl ⟨find_none fun j hj => ?_, h1, h2⟩
    cases hh : holdS (S.getD j z3) r with
    | false => rfl
    | true =>
      exfalso
      obtain ⟨e1, e2⟩ := (hold_iff _ _).1 hh
      obtain ⟨T, hT, hm⟩ := mem_tabs (hS.subset (at_mem hj))
      have h4 := h2 T hT
      unfold inTab at h4
      rw [List.any_eq_false] at h4
      exact h4 _ hm (by rw [Bool.and_eq_true, decide_eq_true_eq, decide_eq_true_eq]; exact ⟨e1, e2⟩)
  · refine .inr ⟨k, h1, h2, ?_, h3⟩
    unfold inTab at h2
    rw [List.any_eq_true] at h2
    obtain ⟨p, hp, hpr⟩ := h2
    rw [Bool.and_eq_true, decide_eq_true_eq, decide_eq_true_eq] at hpr
    obtain ⟨i, hi, e⟩ := mem_at (hS.symm.subset (tabs_mem (n := 1) h1 hp))
    have := own_find hr hi (x := r) (by rw [e]; exact hpr.1) (by rw [e]; exact hpr.2)
    rw [this, e]
def s10 : List Sp := sortS (tabSpans [tPict] 1)
def s11 : List Sp := sortS (tabSpans tabs11 1)
def s12 : List Sp := sortS (tabSpans tabs12 1)
def s09 : List Sp := sortS (tabSpans tabs09 1)
theorem s10_right : rightN s10 s10.length = true := by decide +kernel
theorem s11_right : rightN s11 s11.length = true := by decide +kernel
theorem s12_right : rightN s12 s12.length = true := by decide +kernel
theorem s09_right : rightN s09 s09.length = true := by decide +kernel
def manyI (Ts : List (List (Int × Int))) : Int := Ts.foldl (fun n T => T.foldl (fun n p => n + p.2 - p.1 + 1) n) 0
theorem s10_many : cntN s10 s10.length = manyI [tPict] := by decide +kernel
theorem s11_many : cntN s11 s11.length = manyI tabs11 := by decide +kernel
theorem s12_many : cntN s12 s12.length = manyI tabs12 := by decide +kernel
theorem s09_many : cntN s09 s09.length = manyI tabs09 := by decide +kernel
end Go.Proofs.Ytgoeacmpphmnoaa
