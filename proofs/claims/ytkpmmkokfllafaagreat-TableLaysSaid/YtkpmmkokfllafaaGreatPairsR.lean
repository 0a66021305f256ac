/- Contracts of the reference's functions of layer 14; pairs.Join; works. -/
import Derived.Test.YtkpmmkokfllafaaGreatPairsC
namespace Go.Proofs.YtkpmmkokfllafaaGreat
open Go.RowKit Go.ChangeShapes Go.WideShapes
def rowB : Nat → List UInt8
  | 0 => [48, 48, 48, 48, 49, 49, 48, 48, 49, 48, 48, 48, 48, 48]
  | 1 => [48, 48, 49, 48, 48, 48, 48, 48, 48, 48, 48, 48, 48, 48]
  | 2 => [48, 48, 48, 48, 48, 48, 48, 48, 48, 48, 48, 48, 48, 48]
  | 3 => [48, 48, 48, 48, 48, 48, 48, 48, 48, 48, 48, 48, 48, 48]
  | 4 => [50, 48, 48, 48, 49, 49, 48, 48, 49, 48, 48, 48, 48, 48]
  | 5 => [50, 48, 48, 48, 49, 49, 48, 48, 49, 48, 48, 48, 48, 48]
  | 6 => [48, 48, 48, 48, 49, 49, 50, 48, 49, 48, 48, 48, 48, 48]
  | 7 => [49, 48, 48, 48, 49, 49, 49, 49, 49, 49, 49, 49, 49, 49]
  | 8 => [48, 48, 48, 48, 49, 49, 48, 48, 49, 48, 48, 48, 48, 48]
  | 9 => [48, 48, 48, 48, 49, 49, 48, 48, 49, 49, 49, 48, 49, 49]
  | 10 => [48, 48, 48, 48, 49, 49, 48, 48, 49, 48, 49, 49, 48, 48]
  | 11 => [48, 48, 48, 48, 49, 49, 48, 48, 49, 48, 48, 49, 48, 48]
  | 12 => [48, 48, 48, 48, 49, 49, 48, 48, 49, 48, 49, 49, 48, 48]
  | _ => [48, 48, 48, 48, 49, 49, 48, 48, 49, 48, 48, 49, 48, 48]
def rowS (i : Nat) : ByteArray := ⟨(rowB i).toArray⟩
theorem rowS_size (i : Nat) : (rowS i).size = 14 := by
  unfold rowS rowB
  split <;> rfl
theorem row_tab : ∀ a : Fin 14, ∀ b : Fin 14, ((rowB a.val).getD b.val 0).toNat = (48 + pairI a.val b.val) := by decide +kernel
theorem row_at (a b : Nat) (ha : a < 14) (h : b < (rowS a).size) : (((rowS a)[b]'h).toNat : Int) = 48 + pairI a b := by
  have hb : b < 14 := by rw [rowS_size] at h; exact h
  have := row_tab ⟨a, ha⟩ ⟨b, hb⟩
  have hl : b < (rowB a).length := h
  simp only [List.getD, List.getElem?_eq_getElem hl, Option.getD_some] at this
  exact this
def RowsOk (w : World) (e : Ending) (w' : World) : Prop := ∃ g, e = .returned (.slice (some ⟨g, 0, none⟩) 14 14) ∧ (∀ i, i < 14 → w'.cell? ⟨g, i, none⟩ = some (.string (rowS i))) ∧ Below w.heap.size w w'
set_option maxRecDepth 100000 in
theorem rows_any (w : World) : Calls Tryz.prog 95 #[] w (RowsOk w) := by
  go_enter Tryz.func95, Tryz.ntmps95
  go_wp2
  go_ret
  refine ⟨_, rfl, fun i hi => ?_, (Below.refl _ _).alloc (Nat.le_refl _) _⟩
  rw [cell_of_row _ w.heap.size i _ _ (0, 0) (heap_alloc_new w _)]
  match i, hi with
  | 0, _ => exact congrArg some rfl
  | 1, _ => exact congrArg some rfl
  | 2, _ => exact congrArg some rfl
  | 3, _ => exact congrArg some rfl
  | 4, _ => exact congrArg some rfl
  | 5, _ => exact congrArg some rfl
  | 6, _ => exact congrArg some rfl
  | 7, _ => exact congrArg some rfl
  | 8, _ => exact congrArg some rfl
  | 9, _ => exact congrArg some rfl
  | 10, _ => exact congrArg some rfl
  | 11, _ => exact congrArg some rfl
  | 12, _ => exact congrArg some rfl
  | 13, _ => exact congrArg some rfl
def GivesJoin (w : World) (a b : Int) (e : Ending) (w' : World) : Prop := e = .returned (.int .i64 (joinI a b)) ∧ Below w.heap.size w w'
theorem refjoin_tail (a b : Nat) (ha : a < 14) (hb : b < 14) (s : ByteArray) (hs : s = rowS a) : s.size = 14 ∧ ∀ h : b < s.size, ((s[b]'h).toNat : Int) - 48 = pairI a b := by
  subst hs
  exact ⟨rowS_size a, fun h => by rw [row_at a b ha h]; omega⟩
theorem wrap_dig (u : UInt8) : wrap64 (wrap64 (u.toNat : Int) - 48) = (u.toNat : Int) - 48 := by
  have h := u.toNat_lt
  simp only [wrap64]
  omega
theorem clI_in (i : Nat) (h : i < 14) : clI (i : Int) = (i : Int) := by unfold clI; omega
theorem clI_out (a : Int) (h : a < 0 ∨ 13 < a) : clI a = ((0 : Nat) : Int) := by unfold clI; simp; omega
set_option maxRecDepth 100000 in
theorem refjoin_ii (i : Nat) (hi : i < 14) (j : Nat) (hj : j < 14) (w : World) : Calls Tryz.prog 86 #[.int .i64 (i : Int), .int .i64 (j : Int)] w (GivesJoin w (i : Int) (j : Int)) := by
  have HJ := Lib.hid (show joinI (i : Int) (j : Int) = pairI ((i : Nat) : Int) ((j : Nat) : Int) from by unfold joinI; rw [clI_in i hi, clI_in j hj])
  all_goals
    go_enter Tryz.func86, Tryz.ntmps86
    go_wp2_with fail
    refine (rows_any _).mono ?_
    rintro e w1 ⟨g, rfl, hc, hbl⟩
    have hci := hc i (by omega)
    clear hc
    obtain ⟨s, hs⟩ : ∃ s, s = rowS i := ⟨_, rfl⟩
    rw [← hs] at hci
    obtain ⟨hz, ht⟩ := refjoin_tail i j (by omega) (by omega) s hs
    have HT := Lib.hid ht
    have hz2 : 14 ≤ s.size := by omega
    clear ht hs hz
    go_wp2
    go_ret
    exact ⟨ret_eq (by show Value.int .i64 (wrap64 (wrap64 (s[j]'(by omega)).toNat - 48)) = _; rw [HJ.out, ← HT.out (by omega), wrap_dig]), hbl⟩
set_option maxRecDepth 100000 in
theorem refjoin_io (i : Nat) (hi : i < 14) (b : Int) (hb : b < 0 ∨ 13 < b) (w : World) : Calls Tryz.prog 86 #[.int .i64 (i : Int), .int .i64 b] w (GivesJoin w (i : Int) b) := by
  have HJ := Lib.hid (show joinI (i : Int) b = pairI ((i : Nat) : Int) ((0 : Nat) : Int) from by unfold joinI; rw [clI_in i hi, clI_out b hb])
  all_goals rcases hb with hb | hb
  all_goals
    go_enter Tryz.func86, Tryz.ntmps86
    go_wp2_with fail
    refine (rows_any _).mono ?_
    rintro e w1 ⟨g, rfl, hc, hbl⟩
    have hci := hc i (by omega)
    clear hc
    obtain ⟨s, hs⟩ : ∃ s, s = rowS i := ⟨_, rfl⟩
    rw [← hs] at hci
    obtain ⟨hz, ht⟩ := refjoin_tail i 0 (by omega) (by omega) s hs
    have HT := Lib.hid ht
    have hz2 : 14 ≤ s.size := by omega
    clear ht hs hz
    go_wp2
    go_ret
    exact ⟨ret_eq (by show Value.int .i64 (wrap64 (wrap64 (s[0]'(by omega)).toNat - 48)) = _; rw [HJ.out, ← HT.out (by omega), wrap_dig]), hbl⟩
set_option maxRecDepth 100000 in
theorem refjoin_oi (a : Int) (ha : a < 0 ∨ 13 < a) (j : Nat) (hj : j < 14) (w : World) : Calls Tryz.prog 86 #[.int .i64 a, .int .i64 (j : Int)] w (GivesJoin w a (j : Int)) := by
  have HJ := Lib.hid (show joinI a (j : Int) = pairI ((0 : Nat) : Int) ((j : Nat) : Int) from by unfold joinI; rw [clI_out a ha, clI_in j hj])
  rcases ha with ha | ha
  all_goals
    go_enter Tryz.func86, Tryz.ntmps86
    go_wp2_with fail
    refine (rows_any _).mono ?_
    rintro e w1 ⟨g, rfl, hc, hbl⟩
    have hci := hc 0 (by omega)
    clear hc
    obtain ⟨s, hs⟩ : ∃ s, s = rowS 0 := ⟨_, rfl⟩
    rw [← hs] at hci
    obtain ⟨hz, ht⟩ := refjoin_tail 0 j (by omega) (by omega) s hs
    have HT := Lib.hid ht
    have hz2 : 14 ≤ s.size := by omega
    clear ht hs hz
    go_wp2
    go_ret
    exact ⟨ret_eq (by show Value.int .i64 (wrap64 (wrap64 (s[j]'(by omega)).toNat - 48)) = _; rw [HJ.out, ← HT.out (by omega), wrap_dig]), hbl⟩
set_option maxRecDepth 100000 in
theorem refjoin_oo (a : Int) (ha : a < 0 ∨ 13 < a) (b : Int) (hb : b < 0 ∨ 13 < b) (w : World) : Calls Tryz.prog 86 #[.int .i64 a, .int .i64 b] w (GivesJoin w a b) := by
  have HJ := Lib.hid (show joinI a b = pairI ((0 : Nat) : Int) ((0 : Nat) : Int) from by unfold joinI; rw [clI_out a ha, clI_out b hb])
  rcases ha with ha | ha
  all_goals rcases hb with hb | hb
  all_goals
    go_enter Tryz.func86, Tryz.ntmps86
    go_wp2_with fail
    refine (rows_any _).mono ?_
    rintro e w1 ⟨g, rfl, hc, hbl⟩
    have hci := hc 0 (by omega)
    clear hc
    obtain ⟨s, hs⟩ : ∃ s, s = rowS 0 := ⟨_, rfl⟩
    rw [← hs] at hci
    obtain ⟨hz, ht⟩ := refjoin_tail 0 0 (by omega) (by omega) s hs
    have HT := Lib.hid ht
    have hz2 : 14 ≤ s.size := by omega
    clear ht hs hz
    go_wp2
    go_ret
    exact ⟨ret_eq (by show Value.int .i64 (wrap64 (wrap64 (s[0]'(by omega)).toNat - 48)) = _; rw [HJ.out, ← HT.out (by omega), wrap_dig]), hbl⟩
theorem refjoin_any (a b : Int) (w : World) : Calls Tryz.prog 86 #[.int .i64 a, .int .i64 b] w (GivesJoin w a b) := by
  by_cases ha : a < 0 ∨ 13 < a
  · by_cases hb : b < 0 ∨ 13 < b
    · exact refjoin_oo a ha b hb w
    · obtain ⟨j, rfl⟩ : ∃ j : Nat, b = (j : Int) := ⟨b.toNat, by omega⟩
      exact refjoin_oi a ha j (by omega) w
  · obtain ⟨i, rfl⟩ : ∃ i : Nat, a = (i : Int) := ⟨a.toNat, by omega⟩
    by_cases hb : b < 0 ∨ 13 < b
    · exact refjoin_io i (by omega) b hb w
    · obtain ⟨j, rfl⟩ : ∃ j : Nat, b = (j : Int) := ⟨b.toNat, by omega⟩
      exact refjoin_ii i (by omega) j (by omega) w
end Go.Proofs.YtkpmmkokfllafaaGreat
