/- Contracts of utfall: All; the parts of a row. -/
import Derived.Test.YtfkeeigaocmalaaUallE
import Derived.Test.YtfkeeigaocmalaaPropL
namespace Go.Proofs.Ytfkeeigaocmalaa
open Go.RowKit Go.ChangeShapes Go.WideShapes
theorem goF_ge (xs : List Int) (lead : Int) (f m : Nat) : m ≤ goF xs lead f m := by
  induction f generalizing m with
  | zero => exact Nat.le_refl _
  | succ f ih =>
    unfold goF
    split
    · have := ih (m + 1); omega
    · exact Nat.le_refl _
def lenG (xs : List Int) (p : Nat) : Nat := if leadI (xs.getD p 0) = 0 then 1 else begN (xs.drop p) (leadI (xs.getD p 0))
theorem lenG_pos (xs : List Int) (p : Nat) : 1 ≤ lenG xs p := by
  unfold lenG
  split
  · exact Nat.le_refl _
  · exact goF_ge _ _ _ _
theorem lenG_le (xs : List Int) (p : Nat) (hp : p < xs.length) : p + lenG xs p ≤ xs.length := by
  unfold lenG
  split
  · omega
  · have := begN_le (xs.drop p) (leadI (xs.getD p 0)) (by simp; omega)
    rw [List.length_drop] at this
    omega
theorem partG_len (xs : List Int) (p : Nat) : (partG xs p).2.2.1 = lenG xs p := by
  unfold partG lenG
  split
  · rfl
  · split <;> rfl
theorem partG_p (xs : List Int) (p : Nat) : (partG xs p).2.1 = p := by
  unfold partG
  split
  · rfl
  · split <;> rfl
def posN (xs : List Int) : Nat → Nat
  | 0 => 0
  | k + 1 => posN xs k + lenG xs (posN xs k)
def partsN (xs : List Int) : Nat → List G5
  | 0 => []
  | k + 1 => partsN xs k ++ [partG xs (posN xs k)]
theorem partsN_len (xs : List Int) (k : Nat) : (partsN xs k).length = k := by
  induction k with
  | zero => rfl
  | succ k ih => simp [partsN, ih]
theorem posN_lt (xs : List Int) {j k : Nat} (h : j < k) : posN xs j < posN xs k := by
  induction k with
  | zero => omega
  | succ k ih =>
    have h1 := lenG_pos xs (posN xs k)
    show posN xs j < posN xs k + lenG xs (posN xs k)
    rcases Nat.lt_or_ge j k with h | h
    · have := ih h; omega
    · have : j = k := by omega
      subst this; omega
theorem posN_one (xs : List Int) {j k : Nat} (h : posN xs j = posN xs k) : j = k := by
  rcases Nat.lt_trichotomy j k with h1 | h1 | h1
  · have := posN_lt xs h1; omega
  · exact h1
  · have := posN_lt xs h1; omega
theorem posN_ge (xs : List Int) (k : Nat) : k ≤ posN xs k := by
  induction k with
  | zero => exact Nat.zero_le _
  | succ k ih => have := lenG_pos xs (posN xs k); show k + 1 ≤ posN xs k + lenG xs (posN xs k); omega
theorem partsN_at (xs : List Int) (k i : Nat) (h : i < k) : (partsN xs k)[i]? = some (partG xs (posN xs i)) := by
  induction k with
  | zero => omega
  | succ k ih =>
    unfold partsN
    rcases Nat.lt_or_ge i k with h1 | h1
    · rw [List.getElem?_append_left (by rw [partsN_len]; exact h1)]; exact ih h1
    · have : i = k := by omega
      subst this
      rw [List.getElem?_append_right (by rw [partsN_len]; exact Nat.le_refl _), partsN_len]; simp
def gotCells (g : G5) : List Value := [.int .i32 g.1, .int .i64 g.2.1, .int .i64 g.2.2.1, .int .i64 g.2.2.2.1, .bool g.2.2.2.2]
def gotsCells (l : List G5) : List Value := l.flatMap gotCells
theorem gotsCells_len (l : List G5) : (gotsCells l).length = 5 * l.length := by
  induction l with
  | nil => rfl
  | cons q l ih => simp only [gotsCells, List.flatMap_cons, List.length_append, gotCells, List.length_cons, List.length_nil] at *; omega
theorem gotsCells_at : ∀ (l : List G5) (i : Nat) (h : i < l.length), (gotsCells l)[i * 5]? = some (.int .i32 l[i].1) ∧ (gotsCells l)[i * 5 + 1]? = some (.int .i64 l[i].2.1) ∧ (gotsCells l)[i * 5 + 2]? = some (.int .i64 l[i].2.2.1) ∧ (gotsCells l)[i * 5 + 3]? = some (.int .i64 l[i].2.2.2.1) ∧ (gotsCells l)[i * 5 + 4]? = some (.bool l[i].2.2.2.2)
  | [], i, h => absurd h (Nat.not_lt_zero _)
  | q :: l, 0, _ => ⟨rfl, rfl, rfl, rfl, rfl⟩
  | q :: l, i + 1, h => by
    have := gotsCells_at l i (by simpa using h)
    rw [show (i + 1) * 5 = i * 5 + 5 by omega, show i * 5 + 5 + 1 = i * 5 + 1 + 5 by omega, show i * 5 + 5 + 2 = i * 5 + 2 + 5 by omega, show i * 5 + 5 + 3 = i * 5 + 3 + 5 by omega, show i * 5 + 5 + 4 = i * 5 + 4 + 5 by omega]
    simpa [gotsCells, gotCells] using this
theorem gots_snoc (xs : List Int) (k : Nat) : gotsCells (partsN xs (k + 1)) = gotsCells (partsN xs k) ++ gotCells (partG xs (posN xs k)) := by
  unfold gotsCells
  rw [show partsN xs (k + 1) = partsN xs k ++ [partG xs (posN xs k)] from rfl, List.flatMap_append, List.flatMap_cons, List.flatMap_nil, List.append_nil]
/-- A list of parts that is held. -/
def HeldG (w : World) (v : Value) (l : List G5) : Prop := ∃ ao cap, v = .slice ao l.length cap ∧ ∀ i (h : i < l.length), ∃ b off, ao = some ⟨b, off, none⟩ ∧ b < w.heap.size ∧
  w.cell? ⟨b, off + i * 5, none⟩ = some (.int .i32 l[i].1) ∧ w.cell? ⟨b, off + i * 5 + 1, none⟩ = some (.int .i64 l[i].2.1) ∧ w.cell? ⟨b, off + i * 5 + 2, none⟩ = some (.int .i64 l[i].2.2.1) ∧ w.cell? ⟨b, off + i * 5 + 3, none⟩ = some (.int .i64 l[i].2.2.2.1) ∧ w.cell? ⟨b, off + i * 5 + 4, none⟩ = some (.bool l[i].2.2.2.2)
theorem heldG_of_owns {w : World} {B e : Nat} {v : Value} {n : Nat} {l : List G5} (h : w.ownsRow B e 5 v n (gotsCells l)) : HeldG w v l := by
  have hl : l.length = n := by have := h.1; rw [gotsCells_len] at this; omega
  subst hl
  rcases h.2 with ⟨rfl, hn⟩ | ⟨g, cap, cur, rfl, hb, hg, h1, h2, h3, h4⟩
  · have : l = [] := List.eq_nil_of_length_eq_zero hn
    subst this
    exact ⟨none, 0, rfl, fun i hi => by simp at hi⟩
  · refine ⟨some ⟨g, 0, none⟩, cap, rfl, fun i hi => ⟨g, 0, rfl, (Array.getElem?_eq_some_iff.1 hg).1, ?_⟩⟩
    obtain ⟨k0, k1, k2, k3, k4⟩ := gotsCells_at l i hi
    have c0 := h.cells (g := g) rfl _ _ k0
    have c1 := h.cells (g := g) rfl _ _ k1
    have c2 := h.cells (g := g) rfl _ _ k2
    have c3 := h.cells (g := g) rfl _ _ k3
    have c4 := h.cells (g := g) rfl _ _ k4
    rw [Addr.add_lit] at c0 c1 c2 c3 c4
    simp only [Nat.zero_add] at *
    exact ⟨c0, c1, c2, c3, c4⟩
end Go.Proofs.Ytfkeeigaocmalaa
