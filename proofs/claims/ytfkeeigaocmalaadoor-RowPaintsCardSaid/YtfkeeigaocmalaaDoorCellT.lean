/- cell.Same, and what it leans on. -/
import Derived.Test.YtfkeeigaocmalaaDoorCellA
import Derived.Test.YtfkeeigaocmalaaDoorScalarR
namespace Go.Proofs.YtfkeeigaocmalaaDoor
open Go.RowKit Go.ChangeShapes Go.WideShapes
theorem sameC_of {a b : List Cl} (hl : b.length = a.length) (h : ∀ j, j < a.length → a.getD j zc = b.getD j zc) : sameC a b = true := by
  unfold sameC
  rw [decide_eq_true_eq]
  apply List.ext_getElem hl.symm
  intro i h1 h2
  have := h i h1
  simpa [List.getD, List.getElem?_eq_getElem h1, List.getElem?_eq_getElem h2] using this
theorem sameC_not {a b : List Cl} (j : Nat) (h : a.getD j zc ≠ b.getD j zc) : sameC a b = false := by
  unfold sameC
  rw [decide_eq_false_iff_not]
  rintro rfl
  exact h rfl
theorem sameC_len {a b : List Cl} (h : ¬ b.length = a.length) : sameC a b = false := by
  unfold sameC
  rw [decide_eq_false_iff_not]
  rintro rfl
  exact h rfl
theorem sameC_self (a : List Cl) : sameC a a = true := by simp [sameC]
def AlikeC (a b : List Cl) (k : Nat) : Prop := ∀ j, j < k → a.getD j zc = b.getD j zc
theorem AlikeC.next {a b : List Cl} {k : Nat} (h : AlikeC a b k) (e : a.getD k zc = b.getD k zc) : AlikeC a b (k + 1) := by
  intro j hj
  by_cases h2 : j = k
  · subst h2; exact e
  · exact h j (by omega)
theorem cell_eq {K K' : Int} {T T' : List Int} : (decide ((K, T) = (K', T'))) = ((K == K') && sameB T T') := by
  unfold sameB
  rw [Bool.eq_iff_iff]
  simp
end Go.Proofs.YtfkeeigaocmalaaDoor
