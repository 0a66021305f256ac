/- Texts of rows: bounds; where both texts are alike (30). -/
import Derived.Test.YtmclmhdlnlcafaaDoorTxtG
import Derived.Test.YtmclmhdlnlcafaaDoorFndR
namespace Go.Proofs.YtmclmhdlnlcafaaDoor
open Go.RowKit Go.ChangeShapes Go.WideShapes
theorem text_bound {L : List Cl} (h : ∀ k, k < L.length → (L.getD k zc).2.length ≤ 16) : ∀ k, k ≤ L.length → (textL (L.take k)).length ≤ 16 * k
  | 0, _ => by simp [textL]
  | k + 1, hk => by
    rw [textL_succ L k (by omega), List.length_append]
    have := text_bound h k (by omega)
    have := h k (by omega)
    omega
theorem plain_bound {L : List Cl} (h : ∀ k, k < L.length → (L.getD k zc).2.length ≤ 16) : ∀ k, k ≤ L.length → (plainL (L.take k)).length ≤ 17 * k
  | 0, _ => by simp [plainL]
  | k + 1, hk => by
    rw [plain_succ L k (by omega), List.length_append]
    have := plain_bound h k (by omega)
    have := h k (by omega)
    have : (plainOf (L.getD k zc)).length ≤ 17 := by
      unfold plainOf
      split
      · rw [List.length_cons]; omega
      · omega
    omega
theorem sound_texts {L : List Cl} (hs : soundB L = true) : ∀ k, k < L.length → (L.getD k zc).2.length ≤ 16 := fun k hk => right_short (sound_right hs k hk)
theorem text_len {L : List Cl} (hs : soundB L = true) (h : L.length ≤ 1000) : (textL L).length ≤ 1000000000000 := by
  have := text_bound (sound_texts hs) L.length (Nat.le_refl _)
  rw [List.take_length] at this
  omega
theorem plain_len {L : List Cl} (hs : soundB L = true) (h : L.length ≤ 1000) : (plainL L).length ≤ 1000000000000 := by
  have := plain_bound (sound_texts hs) L.length (Nat.le_refl _)
  rw [List.take_length] at this
  omega
theorem text_used {L : List Cl} (hs : soundB L = true) : ∀ k, k ≤ L.length → textL (L.take k) = textL (L.take (usedTo L k))
  | 0, _ => rfl
  | k + 1, hk => by
    rw [usedTo_succ]
    split
    · rename_i h
      rw [textL_succ L k (by omega), text_used hs k (by omega)]
      rcases right_kinds (sound_right hs k (by omega)) with ⟨_, e⟩ | ⟨h1, _⟩
      · rw [e, List.append_nil]
      · omega
    · rfl
theorem plain_alike {L : List Cl} : ∀ k, k ≤ L.length → (∀ j, j < k → (L.getD j zc).1 ≠ 0) → plainL (L.take k) = textL (L.take k)
  | 0, _, _ => rfl
  | k + 1, hk, h => by
    rw [plain_succ L k (by omega), textL_succ L k (by omega), plain_alike k (by omega) (fun j hj => h j (by omega))]
    unfold plainOf
    rw [if_neg (h k (by omega))]
theorem texts_alike {L : List Cl} (hs : soundB L = true) (h : ∀ j, j < usedTo L L.length → (L.getD j zc).1 ≠ 0) : plainL (L.take (usedTo L L.length)) = textL L := by
  rw [plain_alike _ (usedTo_le L L.length) h, ← text_used hs L.length (Nat.le_refl _), List.take_length]
end Go.Proofs.YtmclmhdlnlcafaaDoor
