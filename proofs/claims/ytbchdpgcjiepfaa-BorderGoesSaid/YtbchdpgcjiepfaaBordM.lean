/- Borders of a row, by numbers alone: the next one, the one ahead, the one at a place or ahead of it. Of no program. -/
namespace Go.Proofs.Ytbchdpgcjiepfaa
/-- Looking up from 0 to n: the first that is asked for and a border; n if there is none (d places are left). -/
def upB (B p : Nat → Bool) (n : Nat) : Nat → Nat
  | 0 => n
  | d + 1 => if p (n - (d + 1) + 1 - 1) && B (n - (d + 1) + 1 - 1) then n - (d + 1) + 1 - 1 else upB B p n d
/-- Looking down from k: the first that is asked for and a border; 0 if there is none. -/
def downB (B p : Nat → Bool) : Nat → Nat
  | 0 => 0
  | k + 1 => if p (k + 1) && B (k + 1) then k + 1 else downB B p k
theorem up_unique (B p : Nat → Bool) (n r : Nat) (hr : r ≤ n) (h1 : ∀ k, k < r → B k = true → p k = false) (h2 : r = n ∨ (p r = true ∧ B r = true)) : ∀ d, n - d ≤ r → d ≤ n → upB B p n d = r := by
  intro d
  induction d with
  | zero => intro h _; show n = r; omega
  | succ d ih =>
    intro h hd
    unfold upB
    rw [show n - (d + 1) + 1 - 1 = n - (d + 1) by omega]
    by_cases e : n - (d + 1) = r
    · rw [e]
      rcases h2 with h2 | ⟨h2, h3⟩
      · omega
      · rw [h2, h3]; rfl
    · have hb : (p (n - (d + 1)) && B (n - (d + 1))) = false := by
        cases hB : B (n - (d + 1)) with
        | false => simp
        | true => rw [h1 _ (by omega) hB]; rfl
      rw [hb, if_neg (by decide)]
      exact ih (by omega) (by omega)
theorem down_unique (B p : Nat → Bool) (r : Nat) (h2 : r = 0 ∨ (p r = true ∧ B r = true)) : ∀ n, r ≤ n → (∀ k, r < k → k ≤ n → B k = true → p k = false) → downB B p n = r := by
  intro n
  induction n with
  | zero => intro h _; show 0 = r; omega
  | succ n ih =>
    intro h h1
    unfold downB
    by_cases e : n + 1 = r
    · rw [e]
      rcases h2 with h2 | ⟨h2, h3⟩
      · omega
      · rw [h2, h3]; rfl
    · have hb : (p (n + 1) && B (n + 1)) = false := by
        cases hB : B (n + 1) with
        | false => simp
        | true => rw [h1 _ (by omega) (Nat.le_refl _) hB]; rfl
      rw [hb, if_neg (by decide)]
      exact ih (by omega) (fun k hk hkn => h1 k hk (by omega))
/-- The list of all borders. -/
def allB (B : Nat → Bool) (n : Nat) : List Nat := (List.range (n + 1)).filter B
theorem allB_mem {B : Nat → Bool} {n k : Nat} : k ∈ allB B n ↔ k ≤ n ∧ B k = true := by
  simp [allB, List.mem_filter, List.mem_range]; omega
theorem allB_lt {B : Nat → Bool} {n : Nat} : ∀ i j (hi : i < j) (hj : j < (allB B n).length), (allB B n)[i]'(by omega) < (allB B n)[j] := by
  have h : (allB B n).Pairwise (· < ·) := List.Pairwise.filter _ List.pairwise_lt_range
  intro i j hi hj
  exact List.pairwise_iff_getElem.1 h i j (by omega) hj hi
theorem allB_pos {B : Nat → Bool} {n : Nat} (hn : B n = true) : 0 < (allB B n).length := List.length_pos_of_mem (allB_mem.2 ⟨Nat.le_refl _, hn⟩)
theorem allB_last {B : Nat → Bool} {n : Nat} (hn : B n = true) : (allB B n)[(allB B n).length - 1]'(by have := allB_pos hn; omega) = n := by
  obtain ⟨i, hi, e⟩ := List.getElem_of_mem (allB_mem.2 ⟨Nat.le_refl n, hn⟩)
  have hm := allB_mem.1 (List.getElem_mem (l := allB B n) (n := (allB B n).length - 1) (by omega))
  by_cases h : i = (allB B n).length - 1
  · subst h; exact e
  · have := allB_lt (B := B) (n := n) i ((allB B n).length - 1) (by omega) (by omega)
    omega
/-- The one that a search finds, or the last one: what looking up finds. -/
theorem search_up {B p : Nat → Bool} {n : Nat} (hn : B n = true) (i : Nat) (hi : i ≤ (allB B n).length) (hlo : ∀ j (h : j < (allB B n).length), j < i → p ((allB B n)[j]) = false) (hhi : ∀ j (h : j < (allB B n).length), i ≤ j → p ((allB B n)[j]) = true) :
    upB B p n n = (allB B n)[min i ((allB B n).length - 1)]'(by have := allB_pos hn; omega) := by
  have hp := allB_pos hn
  have hm := fun m (h : m < (allB B n).length) => allB_mem.1 (List.getElem_mem (l := allB B n) (n := m) h)
  refine up_unique B p n _ (hm _ (by omega)).1 ?_ ?_ n (by omega) (Nat.le_refl _)
  · intro k hk hB
    obtain ⟨m, hml, rfl⟩ := List.getElem_of_mem (allB_mem.2 ⟨show k ≤ n by have := (hm _ (show min i ((allB B n).length - 1) < (allB B n).length by omega)).1; omega, hB⟩)
    by_cases hmi : m < i
    · exact hlo m hml hmi
    · by_cases hmm : m = min i ((allB B n).length - 1)
      · subst hmm; omega
      · have := allB_lt (B := B) (n := n) (min i ((allB B n).length - 1)) m (by omega) hml
        omega
  · by_cases h : i < (allB B n).length
    · right
      have e : min i ((allB B n).length - 1) = i := by omega
      simp only [e]
      exact ⟨hhi i h (Nat.le_refl _), (hm i h).2⟩
    · left
      have e : min i ((allB B n).length - 1) = (allB B n).length - 1 := by omega
      simp only [e]
      exact allB_last hn
/-- The one ahead of what a search finds, or 0: what looking down finds. -/
theorem search_down {B p : Nat → Bool} {n : Nat} (i : Nat) (hi : i ≤ (allB B n).length) (hlo : ∀ j (h : j < (allB B n).length), j < i → p ((allB B n)[j]) = true) (hhi : ∀ j (h : j < (allB B n).length), i ≤ j → p ((allB B n)[j]) = false) :
    (∀ h : 0 < i, downB B p n = (allB B n)[i - 1]'(by omega)) ∧ (i = 0 → downB B p n = 0) := by
  have hm := fun m (h : m < (allB B n).length) => allB_mem.1 (List.getElem_mem (l := allB B n) (n := m) h)
  refine ⟨fun h0 => ?_, fun h0 => ?_⟩
  · refine down_unique B p _ (.inr ⟨hlo _ (by omega) (by omega), (hm _ (by omega)).2⟩) n (hm _ (by omega)).1 ?_
    intro k hk hkn hB
    obtain ⟨m, hml, rfl⟩ := List.getElem_of_mem (allB_mem.2 ⟨hkn, hB⟩)
    by_cases hmi : m < i
    · by_cases e : m = i - 1
      · subst e; omega
      · have := allB_lt (B := B) (n := n) m (i - 1) (by omega) (by omega)
        omega
    · exact hhi m hml (by omega)
  · refine down_unique B p 0 (.inl rfl) n (Nat.zero_le _) ?_
    intro k hk hkn hB
    obtain ⟨m, hml, rfl⟩ := List.getElem_of_mem (allB_mem.2 ⟨hkn, hB⟩)
    exact hhi m hml (by omega)
def startB (j : Nat → Bool) (n : Nat) : List Nat := (List.range n).filter fun k => !j k
def isB (j : Nat → Bool) (n : Nat) (k : Nat) : Bool := k == n || (decide (k < n) && !j k)
theorem isB_last (j : Nat → Bool) (n : Nat) : isB j n n = true := by simp [isB]
theorem allB_starts (j : Nat → Bool) (n : Nat) : allB (isB j n) n = startB j n ++ [n] := by
  unfold allB startB
  rw [List.range_succ, List.filter_append]
  congr 1
  · apply List.filter_congr
    intro k hk
    have := List.mem_range.1 hk
    unfold isB
    rw [decide_eq_true this, show (k == n) = false by simp; omega]
    simp
  · simp [isB]
theorem startB_succ (j : Nat → Bool) (k : Nat) : startB j (k + 1) = startB j k ++ (if j k = true then [] else [k]) := by
  unfold startB
  rw [List.range_succ, List.filter_append]
  congr 1
  cases h : j k <;> simp [h]
theorem startB_mem {j : Nat → Bool} {n k : Nat} : k ∈ startB j n ↔ k < n ∧ j k = false := by simp [startB]
theorem startB_len (j : Nat → Bool) (n : Nat) : (startB j n).length ≤ n := by
  have := List.length_filter_le (fun k => !j k) (List.range n)
  simpa [startB] using this
end Go.Proofs.Ytbchdpgcjiepfaa
