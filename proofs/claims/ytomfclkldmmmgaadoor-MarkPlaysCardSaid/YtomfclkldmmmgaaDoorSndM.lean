/- Sound strips put together, cut, torn, and cut with a last lead made blank. -/
import Derived.Test.YtomfclkldmmmgaaDoorMarkM
import Derived.Test.YtomfclkldmmmgaaDoorElemA
namespace Go.Proofs.YtomfclkldmmmgaaDoor
open Go.RowKit Go.ChangeShapes Go.WideShapes
theorem blank_soundM (m : Nat) : soundB (List.replicate m zc) = true := by
  unfold soundB
  induction m with
  | zero => rfl
  | succ m ih => rw [List.replicate_succ]; show (true && true && soundF false _) = true; rw [ih]; rfl
theorem soundF_app {b : List Cl} (hb : soundB b = true) : ∀ (a : List Cl) (lead : Bool), soundF lead a = true → soundF lead (a ++ b) = true
  | [], lead, h => by
    unfold soundF at h
    have : lead = false := by simpa using h
    subst this
    exact hb
  | c :: a, lead, h => by
    unfold soundF at h
    rw [List.cons_append]
    unfold soundF
    simp only [Bool.and_eq_true] at h ⊢
    exact ⟨h.1, soundF_app hb a _ h.2⟩
theorem sound_app {a b : List Cl} (ha : soundB a = true) (hb : soundB b = true) : soundB (a ++ b) = true := soundF_app hb a false ha
theorem soundF_cut : ∀ (L : List Cl) (lead : Bool) (k : Nat), soundF lead L = true → (k ≠ 0 ∨ lead = false) → (L.getD k zc).1 ≠ 3 → soundF lead (L.take k) = true ∧ soundF false (L.drop k) = true
  | [], lead, k, h, _, _ => by
    have : lead = false := by unfold soundF at h; simpa using h
    subst this
    simp [soundF]
  | c :: L, lead, 0, h, hk, _ => by
    rcases hk with hk | hk
    · exact absurd rfl hk
    · subst hk
      exact ⟨by simp [soundF], by simpa using h⟩
  | c :: L, lead, k + 1, h, _, h3 => by
    unfold soundF at h
    simp only [Bool.and_eq_true] at h
    rw [List.take_succ_cons, List.drop_succ_cons]
    have h3' : (L.getD k zc).1 ≠ 3 := by simpa using h3
    have hz : k ≠ 0 ∨ (c.1 == 2) = false := by
      rcases Nat.eq_zero_or_pos k with rfl | hp
      · right
        cases L with
        | nil => have := h.2; unfold soundF at this; simpa using this
        | cons d L =>
          have := h.2
          unfold soundF at this
          simp only [Bool.and_eq_true, beq_iff_eq] at this
          have e := this.1.2
          have e3 : (d.1 == 3) = false := by rw [beq_eq_false_iff_ne]; simpa using h3'
          rw [e, e3]
      · left; omega
    obtain ⟨h4, h5⟩ := soundF_cut L (c.1 == 2) k h.2 hz h3'
    refine ⟨?_, h5⟩
    unfold soundF
    simp only [Bool.and_eq_true]
    exact ⟨h.1, h4⟩
theorem sound_cut {L : List Cl} (h : soundB L = true) (k : Nat) (h3 : (L.getD k zc).1 ≠ 3) : soundB (L.take k) = true ∧ soundB (L.drop k) = true := soundF_cut L false k h (.inr rfl) h3
theorem getD_take {α : Type} (l : List α) (d : α) (k i : Nat) : (l.take k).getD i d = if i < k then l.getD i d else d := by
  simp only [List.getD, List.getElem?_take]
  split <;> rfl
theorem getD_drop {α : Type} (l : List α) (d : α) (k i : Nat) : (l.drop k).getD i d = l.getD (k + i) d := by
  simp only [List.getD, List.getElem?_drop]
theorem getD_repl (n i : Nat) : (List.replicate n zc).getD i zc = zc := by
  simp only [List.getD, List.getElem?_replicate]
  split <;> rfl
theorem ext_getD {α : Type} (d : α) {a b : List α} (hl : a.length = b.length) (h : ∀ i, i < a.length → a.getD i d = b.getD i d) : a = b := by
  apply List.ext_getElem?
  intro i
  by_cases hi : i < a.length
  · have := h i hi
    simp only [List.getD, List.getElem?_eq_getElem hi, List.getElem?_eq_getElem (show i < b.length by omega), Option.getD_some] at this
    rw [List.getElem?_eq_getElem hi, List.getElem?_eq_getElem (show i < b.length by omega), this]
  · rw [List.getElem?_eq_none (by omega), List.getElem?_eq_none (by omega)]
/-- A strip torn at a column. -/
def tearL (L : List Cl) (col : Nat) : List Cl := if (L.getD col zc).1 = 3 then (L.set (col - 1) zc).set col zc else L
theorem tear_len (L : List Cl) (col : Nat) : (tearL L col).length = L.length := by
  unfold tearL
  split <;> simp
theorem tear_at (L : List Cl) (col i : Nat) : (tearL L col).getD i zc = if (L.getD col zc).1 = 3 ∧ (i = col ∨ i = col - 1) then zc else L.getD i zc := by
  unfold tearL
  by_cases h : (L.getD col zc).1 = 3
  · have hc : col < L.length := by
      rcases Nat.lt_or_ge col L.length with h' | h'
      · exact h'
      · rw [getD_ge L zc col h'] at h; cases h
    rw [if_pos h, getD_set, getD_set]
    by_cases h1 : i = col
    · rw [if_pos ⟨h1.symm, by simp; omega⟩, if_pos ⟨h, .inl h1⟩]
    · rw [if_neg (by omega)]
      by_cases h2 : i = col - 1
      · rw [if_pos ⟨h2.symm, by omega⟩, if_pos ⟨h, .inr h2⟩]
      · rw [if_neg (by omega), if_neg (by omega)]
  · rw [if_neg h, if_neg (fun h' => h h'.1)]
theorem tear_sound {L : List Cl} (h : soundB L = true) (col : Nat) : soundB (tearL L col) = true := by
  by_cases h3 : (L.getD col zc).1 = 3
  · have hp := (sound_prop L).1 h
    have hc : col < L.length := by
      rcases Nat.lt_or_ge col L.length with h' | h'
      · exact h'
      · rw [getD_ge L zc col h'] at h3; cases h3
    have h0 := (hp col hc).2.2 h3
    rw [sound_prop]
    intro i hi
    rw [tear_len] at hi
    obtain ⟨p1, p2, p3⟩ := hp i hi
    rw [tear_at, tear_at, tear_at]
    refine ⟨?_, fun e => ?_, fun e => ?_⟩
    · split
      · rfl
      · exact p1
    · split at e
      · cases e
      · rename_i hn
        have e3 := p2 e
        rw [if_neg]
        · exact e3
        · rintro ⟨_, h' | h'⟩
          · exact hn ⟨h3, .inr (by omega)⟩
          · have := h0.2
            rw [← h'] at this
            omega
    · split at e
      · cases e
      · rename_i hn
        obtain ⟨e0, e2⟩ := p3 e
        refine ⟨e0, ?_⟩
        rw [if_neg]
        · exact e2
        · rintro ⟨_, h' | h'⟩
          · rw [h'] at e2
            omega
          · exact hn ⟨h3, .inl (by omega)⟩
  · unfold tearL
    rw [if_neg h3]
    exact h
theorem tear_not3 (L : List Cl) (col : Nat) : ((tearL L col).getD col zc).1 ≠ 3 := by
  rw [tear_at]
  split
  · decide
  · rename_i h
    intro h3
    exact h ⟨h3, .inl rfl⟩
theorem tear_keeps3 {L : List Cl} {col i : Nat} (h : (L.getD i zc).1 ≠ 3) : ((tearL L col).getD i zc).1 ≠ 3 := by
  rw [tear_at]
  split
  · decide
  · exact h
/-- A strip whose last cell is made blank if it leads. -/
def fixL (L : List Cl) : List Cl := if (L.getD (L.length - 1) zc).1 = 2 then L.set (L.length - 1) zc else L
theorem fix_len (L : List Cl) : (fixL L).length = L.length := by
  unfold fixL
  split <;> simp
theorem fix_at (L : List Cl) (i : Nat) : (fixL L).getD i zc = if i + 1 = L.length ∧ (L.getD i zc).1 = 2 then zc else L.getD i zc := by
  unfold fixL
  by_cases h : (L.getD (L.length - 1) zc).1 = 2
  · rw [if_pos h, getD_set]
    by_cases h1 : i + 1 = L.length
    · rw [if_pos (by omega), if_pos ⟨h1, by rw [show i = L.length - 1 by omega]; exact h⟩]
    · by_cases h2 : L.length = 0
      · rw [if_neg (by omega), if_neg (by omega)]
      · rw [if_neg (by omega), if_neg (by omega)]
  · rw [if_neg h, if_neg]
    rintro ⟨h1, h2⟩
    rw [show i = L.length - 1 by omega] at h2
    exact h h2
theorem fix_none {L : List Cl} (h : soundB L = true) : fixL L = L := by
  unfold fixL
  rw [if_neg]
  intro h2
  have hl : L.length - 1 < L.length := by
    rcases Nat.eq_zero_or_pos L.length with h' | h'
    · rw [getD_ge L zc _ (by omega)] at h2; cases h2
    · omega
  have := ((sound_prop L).1 h _ hl).2.1 h2
  rw [getD_ge L zc _ (by omega)] at this
  cases this
theorem fix_app (a : List Cl) {b : List Cl} (hb : 0 < b.length) : fixL (a ++ b) = a ++ fixL b := by
  apply ext_getD zc
  · simp [fix_len]
  · intro i hi
    rw [fix_len] at hi
    rw [fix_at, getD_app, getD_app, fix_at, List.length_append]
    by_cases h : i < a.length
    · rw [if_pos h, if_pos h, if_neg (by omega)]
    · rw [if_neg h, if_neg h]
      by_cases h2 : i + 1 = a.length + b.length ∧ (b.getD (i - a.length) zc).1 = 2
      · rw [if_pos h2, if_pos ⟨by omega, h2.2⟩]
      · rw [if_neg h2, if_neg (fun h' => h2 ⟨by omega, h'.2⟩)]
/-- What is cut, its last lead made blank, is sound. -/
theorem fix_cut {L : List Cl} (h : soundB L = true) (m : Nat) : soundB (fixL (L.take m)) = true := by
  by_cases h3 : (L.getD m zc).1 = 3
  · have hm : m < L.length := by
      rcases Nat.lt_or_ge m L.length with h' | h'
      · exact h'
      · rw [getD_ge L zc m h'] at h3; cases h3
    obtain ⟨h0, h2⟩ := ((sound_prop L).1 h m hm).2.2 h3
    have hs := (sound_cut h (m - 1) (by rw [h2]; decide)).1
    have e : fixL (L.take m) = L.take (m - 1) ++ [zc] := by
      apply ext_getD zc
      · simp [fix_len]; omega
      · intro i hi
        rw [fix_len] at hi
        simp at hi
        have hlt : (L.take m).length = m := by simp; omega
        have hlt1 : (L.take (m - 1)).length = m - 1 := by simp; omega
        rw [fix_at, getD_app, getD_take, getD_take, hlt, hlt1, if_pos (show i < m by omega)]
        by_cases h1 : i + 1 = m
        · rw [if_pos ⟨h1, by rw [show i = m - 1 by omega]; exact h2⟩, if_neg (by omega), show i - (m - 1) = 0 by omega]
          rfl
        · rw [if_neg (fun h' => h1 h'.1), if_pos (by omega), if_pos (by omega)]
    rw [e]
    exact sound_app hs (by decide)
  · have hs := (sound_cut h m h3).1
    rw [fix_none hs]
    exact hs
/-- All of a row painted. -/
theorem paint_all {L p : List Cl} (h : p.length = L.length) : paintL L p 0 = p := by
  apply ext_getD zc
  · rw [paint_len, h]
  · intro i hi
    rw [paint_len] at hi
    rw [paint_get _ _ _ _ hi]
    unfold paintAt
    rw [if_pos (by unfold inP; omega)]
    rfl
theorem hit_all {L p : List Cl} (h : p.length = L.length) (h0 : 0 < L.length) : lastHit L p 0 = true := by
  unfold lastHit
  have : inP 0 p.length (L.length - 1) := by unfold inP; omega
  simp [this]
/-- Blanks put in. -/
def insL (L : List Cl) (c m : Nat) : List Cl := fixL ((tearL L c).take c ++ List.replicate m zc ++ ((tearL L c).drop c).take (L.length - c - m))
theorem ins_len {L : List Cl} {c m : Nat} (h : c + m ≤ L.length) : (insL L c m).length = L.length := by
  unfold insL
  rw [fix_len]
  simp [tear_len]
  omega
theorem ins_sound {L : List Cl} (hs : soundB L = true) {c m : Nat} (hm : 0 < m) : soundB (insL L c m) = true := by
  obtain ⟨h1, h2⟩ := sound_cut (tear_sound hs c) c (tear_not3 L c)
  unfold insL
  have hab := sound_app h1 (blank_soundM m)
  by_cases h0 : 0 < (((tearL L c).drop c).take (L.length - c - m)).length
  · rw [fix_app _ h0]
    exact sound_app hab (fix_cut h2 _)
  · have : ((tearL L c).drop c).take (L.length - c - m) = [] := List.eq_nil_of_length_eq_zero (by omega)
    rw [this, List.append_nil, fix_none hab]
    exact hab
theorem ins_at {L : List Cl} {c m : Nat} (h : c + m ≤ L.length) (i : Nat) (hi : i < L.length) :
    (insL L c m).getD i zc = (fun x : Cl => if i + 1 = L.length ∧ x.1 = 2 then zc else x) (if i < c then (tearL L c).getD i zc else if i < c + m then zc else (tearL L c).getD (i - m) zc) := by
  unfold insL
  rw [fix_at]
  have hl : ((tearL L c).take c ++ List.replicate m zc ++ ((tearL L c).drop c).take (L.length - c - m)).length = L.length := by simp [tear_len]; omega
  have e : ((tearL L c).take c ++ List.replicate m zc ++ ((tearL L c).drop c).take (L.length - c - m)).getD i zc = if i < c then (tearL L c).getD i zc else if i < c + m then zc else (tearL L c).getD (i - m) zc := by
    have hl1 : ((tearL L c).take c).length = c := by simp [tear_len]; omega
    rw [getD_app, getD_app, List.length_append, hl1, List.length_replicate, getD_take, getD_repl, getD_take, getD_drop]
    by_cases h1 : i < c
    · rw [if_pos (by omega), if_pos h1, if_pos h1]
      simp [h1]
    · by_cases h2 : i < c + m
      · rw [if_pos h2, if_neg h1, if_neg h1, if_pos h2]
      · rw [if_neg h2, if_pos (by omega), if_neg h1, if_neg h2, show c + (i - (c + m)) = i - m by omega]
  rw [hl, e]
/-- Cells taken out. -/
def delL (L : List Cl) (c m : Nat) : List Cl := (tearL (tearL L c) (c + m)).take c ++ (tearL (tearL L c) (c + m)).drop (c + m) ++ List.replicate m zc
theorem del_len {L : List Cl} {c m : Nat} (h : c + m ≤ L.length) : (delL L c m).length = L.length := by
  unfold delL
  simp [tear_len]
  omega
theorem del_sound {L : List Cl} (hs : soundB L = true) (c m : Nat) : soundB (delL L c m) = true := by
  have ht := tear_sound (tear_sound hs c) (c + m)
  unfold delL
  exact sound_app (sound_app (sound_cut ht c (tear_keeps3 (tear_not3 L c))).1 (sound_cut ht (c + m) (tear_not3 _ _)).2) (blank_soundM m)
theorem del_at {L : List Cl} {c m : Nat} (h : c + m ≤ L.length) (i : Nat) (hi : i < L.length) :
    (delL L c m).getD i zc = if i < c then (tearL (tearL L c) (c + m)).getD i zc else if i + m < L.length then (tearL (tearL L c) (c + m)).getD (i + m) zc else zc := by
  unfold delL
  have hl1 : ((tearL (tearL L c) (c + m)).take c).length = c := by simp [tear_len]; omega
  have hl2 : ((tearL (tearL L c) (c + m)).drop (c + m)).length = L.length - (c + m) := by simp [tear_len]
  rw [getD_app, getD_app, List.length_append, hl1, hl2, getD_take, getD_drop, getD_repl]
  by_cases h1 : i < c
  · rw [if_pos (by omega), if_pos h1, if_pos h1]
    simp [h1]
  · by_cases h2 : i + m < L.length
    · rw [if_pos (by omega), if_neg h1, if_neg h1, if_pos h2, show c + m + (i - c) = i + m by omega]
    · rw [if_neg (by omega), if_neg h1, if_neg h2]
end Go.Proofs.YtomfclkldmmmgaaDoor
