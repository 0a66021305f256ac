/- Contracts of the reference's functions of layer 14; pairs.Join; works. -/
import Derived.Test.YtkpmmkokfllafaaPairsC
namespace Go.Proofs.Ytkpmmkokfllafaa
open Go.RowKit Go.ChangeShapes Go.WideShapes
def rowB : Nat → List UInt8
  | 0 => [48, 48, 48, 48, 49, 49, 48, 48, 49, 48, 48, 48, 48, 48]
  | 1 => [48, 48, 49, 48, 48, 48, 48, 48, 48, 48, 48, 48, 48, 48]
  | 2 => [48, 48, 48, 48, 48, 48, 48, 48, 48, 48, 48, 48, 48, 48]
  | 3 => [48, 48, 48, 48, 48, 48, 48, 48, 48, 48, 48, 48, 48, 48]
  | 4 => [50, 48, 48, 48, 49, 49, 48, 48, 49, 48, 48, 48, 48, 48]
  | 5 => [50, 48, 48, 48, 49, 49, 48, 48, 49, 48, 48, 48, 48, 48]
  | 6 => [48, 48, 48, 48, 49, 49, 50, 48, 49, 48, 48, 48, 48, 48]
  | 7 => [49, 48, 48, 48, 49, 49, 49, 49, 49, 49, 49, 49, 49, 49]
  | 8 => [48, 48, 48, 48, 49, 49, 48, 48, 49, 48, 48, 48, 48, 48]
  | 9 => [48, 48, 48, 48, 49, 49, 48, 48, 49, 49, 49, 48, 49, 49]
  | 10 => [48, 48, 48, 48, 49, 49, 48, 48, 49, 48, 49, 49, 48, 48]
  | 11 => [48, 48, 48, 48, 49, 49, 48, 48, 49, 48, 48, 49, 48, 48]
  | 12 => [48, 48, 48, 48, 49, 49, 48, 48, 49, 48, 49, 49, 48, 48]
  | _ => [48, 48, 48, 48, 49, 49, 48, 48, 49, 48, 48, 49, 48, 48]
def rowS (i : Nat) : ByteArray := ⟨(rowB i).toArray⟩
theorem rowS_size (i : Nat) : (rowS i).size = 14 := by
  unfold rowS rowB
  split <;> rfl
theorem row_tab : ∀ a : Fin 14, ∀ b : Fin 14, ((rowB a.val).getD b.val 0).toNat = (48 + pairI a.val b.val) := by decide +kernel
theorem row_at (a b : Nat) (ha : a < 14) (h : b < (rowS a).size) : (((rowS a)[b]'h).toNat : Int) = 48 + pairI a b := by
  have hb : b < 14 := by rw [rowS_size] at h; exact h
  have := row_tab ⟨a, ha⟩ ⟨b, hb⟩
  have hl : b < (rowB a).length := h
  simp only [List.getD, List.getElem?_eq_getElem hl, Option.getD_some] at this
  exact this
def RowsOk (w : World) (e : Ending) (w' : World) : Prop := ∃ g, e = .returned (.slice (some ⟨g, 0, none⟩) 14 14) ∧ (∀ i, i < 14 → w'.cell? ⟨g, i, none⟩ = some (.string (rowS i))) ∧ Below w.heap.size w w'
def GivesJoin (w : World) (a b : Int) (e : Ending) (w' : World) : Prop := e = .returned (.int .i64 (joinI a b)) ∧ Below w.heap.size w w'
theorem refjoin_tail (a b : Nat) (ha : a < 14) (hb : b < 14) (s : ByteArray) (hs : s = rowS a) : s.size = 14 ∧ ∀ h : b < s.size, ((s[b]'h).toNat : Int) - 48 = pairI a b := by
  subst hs
  exact ⟨rowS_size a, fun h => by rw [row_at a b ha h]; omega⟩
theorem wrap_dig (u : UInt8) : wrap64 (wrap64 (u.toNat : Int) - 48) = (u.toNat : Int) - 48 := by
  have h := u.toNat_lt
  simp only [wrap64]
  omega
theorem clI_in (i : Nat) (h : i < 14) : clI (i : Int) = (i : Int) := by unfold clI; omega
theorem clI_out (a : Int) (h : a < 0 ∨ 13 < a) : clI a = ((0 : Nat) : Int) := by unfold clI; simp; omega
end Go.Proofs.Ytkpmmkokfllafaa
