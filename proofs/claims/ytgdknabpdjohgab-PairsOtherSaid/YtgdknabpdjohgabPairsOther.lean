/- PairsOther (14.2) answers true at every number, and turns nothing. No conditions. -/
import Derived.Test.YtgdknabpdjohgabPairsJ
import Derived.Test.YtgdknabpdjohgabFrame
import Derived.Test.YtgdknabpdjohgabRows
import Derived.ProofKit
namespace Go.Proofs.Ytgdknabpdjohgab.lawPairsOther
open Go.ChangeShapes Go.WideShapes Go.ChangeAt Go.RowKit
theorem tab0 : ∀ x : Fin 14, pairI x.val 0 = 0 ∨ x.val = 4 ∨ x.val = 5 ∨ x.val = 7 := by decide
theorem tab1 : ∀ x : Fin 14, (pairI x.val 4 = 1 ↔ ¬ (1 ≤ x.val ∧ x.val ≤ 3)) ∧ (pairI x.val 5 = 1 ↔ ¬ (1 ≤ x.val ∧ x.val ≤ 3)) ∧ (pairI x.val 8 = 1 ↔ ¬ (1 ≤ x.val ∧ x.val ≤ 3)) := by decide
theorem at0 (a : Int) : joinI a 0 = 0 ∨ a = 4 ∨ a = 5 ∨ a = 7 := by
  have k := clI_bd a
  have h := tab0 ⟨(clI a).toNat, by omega⟩
  have e : (((clI a).toNat : Nat) : Int) = clI a := by omega
  simp only [e] at h
  have e0 : clI 0 = 0 := by decide
  unfold joinI
  rw [e0]
  unfold clI at h ⊢
  omega
theorem atb (a b : Int) (hb : b = 4 ∨ b = 5 ∨ b = 8) : joinI a b = 1 ↔ ¬ (1 ≤ a ∧ a ≤ 3) := by
  have k := clI_bd a
  have h := tab1 ⟨(clI a).toNat, by omega⟩
  have e : (((clI a).toNat : Nat) : Int) = clI a := by omega
  simp only [e] at h
  have e2 : (1 ≤ (clI a).toNat ∧ (clI a).toNat ≤ 3) ↔ (1 ≤ a ∧ a ≤ 3) := by unfold clI; omega
  rw [e2] at h
  unfold joinI
  rcases hb with rfl | rfl | rfl
  · exact h.1
  · exact h.2.1
  · exact h.2.2
theorem yes_of (a b : Int) (hb : b = 4 ∨ b = 5 ∨ b = 8) (h : a < 1 ∨ 3 < a) : (joinI a b == 1) = true := by
  have := atb a b hb; simp; omega
theorem no_of (a b : Int) (hb : b = 4 ∨ b = 5 ∨ b = 8) (h1 : 1 ≤ a) (h2 : a ≤ 3) : (joinI a b == 1) = false := by
  have := atb a b hb; simp; omega
set_option maxRecDepth 100000 in
set_option maxHeartbeats 2000000 in
theorem walk1 (a : Int) (w : World) (o1 : 1 ≤ a) (o2 : a ≤ 3) (j0 : Hid (joinI a 0 = 0)) : Calls Try.prog 7 #[.int .i64 a] w (Yes w) := by
    have c4 := Lib.hid (no_of a 4 (by simp) o1 o2)
    have c5 := Lib.hid (no_of a 5 (by simp) o1 o2)
    have c8 := Lib.hid (no_of a 8 (by simp) o1 o2)
    go_enter Try.func7, Try.ntmps7
    go_wp2_with fail
    refine (works14_any _).mono ?_
    rintro e w' ⟨rfl, rfl⟩
    go_wp2_with fail
    refine (join_any a 0 _).mono ?_
    rintro e w' ⟨rfl, rfl⟩
    rw [j0.out]
    go_wp2
    go_loop [5] (fun b => ∃ n : Int, 4 ≤ n ∧ n ≤ 9 ∧ b = .int .i64 n) (fun b => (9 - intOf b).toNat)
    case atStart => exact ⟨4, by omega, by omega, rfl⟩
    case round =>
      obtain ⟨n, n0, n1, rfl⟩ := hrel
      obtain rfl | rfl | rfl | rfl | rfl | rfl : n = 4 ∨ n = 5 ∨ n = 6 ∨ n = 7 ∨ n = 8 ∨ n = 9 := by omega
      · go_wp2_with fail
        refine (join_any a 4 _).mono ?_
        rintro e w' ⟨rfl, rfl⟩
        have c := c4.out
        go_wp2
        go_round
        case rel => exact ⟨5, by omega, by omega, rfl⟩
        case measure => simp [intOf]
      · go_wp2_with fail
        refine (join_any a 5 _).mono ?_
        rintro e w' ⟨rfl, rfl⟩
        have c := c5.out
        go_wp2
        go_round
        case rel => exact ⟨6, by omega, by omega, rfl⟩
        case measure => simp [intOf]
      · go_wp2
        go_round
        case rel => exact ⟨7, by omega, by omega, rfl⟩
        case measure => simp [intOf]
      · go_wp2
        go_round
        case rel => exact ⟨8, by omega, by omega, rfl⟩
        case measure => simp [intOf]
      · go_wp2_with fail
        refine (join_any a 8 _).mono ?_
        rintro e w' ⟨rfl, rfl⟩
        have c := c8.out
        go_wp2
        go_round
        case rel => exact ⟨9, by omega, by omega, rfl⟩
        case measure => simp [intOf]
      · go_wp2
        go_ret
        exact ⟨(ret_eq (by first | rfl | (simp <;> omega))), Below.refl _ _⟩
set_option maxRecDepth 100000 in
set_option maxHeartbeats 2000000 in
theorem walk2 (a : Int) (w : World) (h : a < 1 ∨ 3 < a) (j0 : Hid (joinI a 0 = 0)) : Calls Try.prog 7 #[.int .i64 a] w (Yes w) := by
  have c4 := Lib.hid (yes_of a 4 (by simp) h)
  have c5 := Lib.hid (yes_of a 5 (by simp) h)
  have c8 := Lib.hid (yes_of a 8 (by simp) h)
  rcases h with h | h
  all_goals
    go_enter Try.func7, Try.ntmps7
    go_wp2_with fail
    refine (works14_any _).mono ?_
    rintro e w' ⟨rfl, rfl⟩
    go_wp2_with fail
    refine (join_any a 0 _).mono ?_
    rintro e w' ⟨rfl, rfl⟩
    rw [j0.out]
    go_wp2
    go_loop [5] (fun b => ∃ n : Int, 4 ≤ n ∧ n ≤ 9 ∧ b = .int .i64 n) (fun b => (9 - intOf b).toNat)
    case atStart => exact ⟨4, by omega, by omega, rfl⟩
    case round =>
      obtain ⟨n, n0, n1, rfl⟩ := hrel
      obtain rfl | rfl | rfl | rfl | rfl | rfl : n = 4 ∨ n = 5 ∨ n = 6 ∨ n = 7 ∨ n = 8 ∨ n = 9 := by omega
      · go_wp2_with fail
        refine (join_any a 4 _).mono ?_
        rintro e w' ⟨rfl, rfl⟩
        have c := c4.out
        go_wp2
        go_round
        case rel => exact ⟨5, by omega, by omega, rfl⟩
        case measure => simp [intOf]
      · go_wp2_with fail
        refine (join_any a 5 _).mono ?_
        rintro e w' ⟨rfl, rfl⟩
        have c := c5.out
        go_wp2
        go_round
        case rel => exact ⟨6, by omega, by omega, rfl⟩
        case measure => simp [intOf]
      · go_wp2
        go_round
        case rel => exact ⟨7, by omega, by omega, rfl⟩
        case measure => simp [intOf]
      · go_wp2
        go_round
        case rel => exact ⟨8, by omega, by omega, rfl⟩
        case measure => simp [intOf]
      · go_wp2_with fail
        refine (join_any a 8 _).mono ?_
        rintro e w' ⟨rfl, rfl⟩
        have c := c8.out
        go_wp2
        go_round
        case rel => exact ⟨9, by omega, by omega, rfl⟩
        case measure => simp [intOf]
      · go_wp2
        go_ret
        exact ⟨(ret_eq (by first | rfl | (simp <;> omega))), Below.refl _ _⟩
set_option maxRecDepth 100000 in
set_option maxHeartbeats 2000000 in
theorem walk3 (a : Int) (w : World) (h : a = 4 ∨ a = 5 ∨ a = 7) : Calls Try.prog 7 #[.int .i64 a] w (Yes w) := by
  have c4 := Lib.hid (yes_of a 4 (by simp) (by omega))
  have c5 := Lib.hid (yes_of a 5 (by simp) (by omega))
  have c8 := Lib.hid (yes_of a 8 (by simp) (by omega))
  have hj : ∃ z, joinI a 0 = z ∧ (z = 0 ∨ z = 1 ∨ z = 2) := by
    rcases h with rfl | rfl | rfl
    · exact ⟨2, by decide, by simp⟩
    · exact ⟨2, by decide, by simp⟩
    · exact ⟨1, by decide, by simp⟩
  obtain ⟨z, hz, hz2⟩ := hj
  have HZ := Lib.hid hz
  clear hz
  rcases hz2 with rfl | rfl | rfl
  all_goals rcases h with rfl | rfl | rfl
  all_goals
    go_enter Try.func7, Try.ntmps7
    go_wp2_with fail
    refine (works14_any _).mono ?_
    rintro e w' ⟨rfl, rfl⟩
    go_wp2_with fail
    refine (join_any _ 0 _).mono ?_
    rintro e w' ⟨rfl, rfl⟩
    rw [HZ.out]
    go_wp2
    go_loop [5] (fun b => ∃ n : Int, 4 ≤ n ∧ n ≤ 9 ∧ b = .int .i64 n) (fun b => (9 - intOf b).toNat)
    case atStart => exact ⟨4, by omega, by omega, rfl⟩
    case round =>
      obtain ⟨n, n0, n1, rfl⟩ := hrel
      obtain rfl | rfl | rfl | rfl | rfl | rfl : n = 4 ∨ n = 5 ∨ n = 6 ∨ n = 7 ∨ n = 8 ∨ n = 9 := by omega
      · go_wp2_with fail
        refine (join_any _ 4 _).mono ?_
        rintro e w' ⟨rfl, rfl⟩
        have c := c4.out
        go_wp2
        go_round
        case rel => exact ⟨5, by omega, by omega, rfl⟩
        case measure => simp [intOf]
      · go_wp2_with fail
        refine (join_any _ 5 _).mono ?_
        rintro e w' ⟨rfl, rfl⟩
        have c := c5.out
        go_wp2
        go_round
        case rel => exact ⟨6, by omega, by omega, rfl⟩
        case measure => simp [intOf]
      · go_wp2
        go_round
        case rel => exact ⟨7, by omega, by omega, rfl⟩
        case measure => simp [intOf]
      · go_wp2
        go_round
        case rel => exact ⟨8, by omega, by omega, rfl⟩
        case measure => simp [intOf]
      · go_wp2_with fail
        refine (join_any _ 8 _).mono ?_
        rintro e w' ⟨rfl, rfl⟩
        have c := c8.out
        go_wp2
        go_round
        case rel => exact ⟨9, by omega, by omega, rfl⟩
        case measure => simp [intOf]
      · go_wp2
        go_ret
        exact ⟨(ret_eq (by first | rfl | (simp <;> omega))), Below.refl _ _⟩
theorem walk (a : Int) (wa : (Lit.int .i64 a).wf = true) (w : World) : Calls Try.prog 7 #[.int .i64 a] w (Yes w) := by
  rcases at0 a with h | h
  · by_cases h1 : 1 ≤ a ∧ a ≤ 3
    · exact walk1 a w h1.1 h1.2 (Lib.hid h)
    · exact walk2 a w (by omega) (Lib.hid h)
  · exact walk3 a w h

set_option maxRecDepth 100000 in
theorem lifted (os : Os) (started : os.Started) (H : Type) (enc : TypeId × Value → H) :
    ReturnsInHanded {} Try.checked os 7 .any (Rows.pairsOtherSpec.pre6 enc Try.prog Try.f7 Rows.pairsOtherRow.domain false) (Rows.pairsOtherSpec.post enc Try.prog Try.f7 false true false false) := by
  refine law_frame_plain (C := Try.checked) (tb := 4) (by kernel_rfl) started (by kernel_rfl) Try.func7 (by kernel_rfl) (by kernel_rfl) Try.underlying4 rfl
    (by rw [Try.params7]; intro t ht; simp at ht; subst ht <;> exact ⟨by kernel_rfl, of_decide_eq_true (by kernel_rfl)⟩)
    (by rw [Try.params7]; intro ds hd; match ds, hd with | [_], _ => rfl)
    (ChangeSpec.witness6 (enc := enc) (C := Try.checked) false ⟨#[], #[.int .i64 0], []⟩ 8 (by kernel_rfl) (by kernel_rfl) (by kernel_rfl) (by kernel_rfl)) ?_
  intro W base args ds before hval hA
  rw [Try.params7] at hA hval
  obtain ⟨v0, vs0, d0, ds0, p0, q0, hargs, rfl, rfl, h0, r0⟩ := trodAll_cons hA
  obtain ⟨rfl, rfl, rfl⟩ := trodAll_nil r0
  obtain rfl : args = #[v0] := by cases args; simp_all
  obtain ⟨x0, rfl, rfl, rfl, wx0⟩ := open_int Try.underlying3 (hval 0 3 v0 rfl rfl) h0
  exact walk x0 wx0 W

theorem proved : Rows.PairsOtherSaid :=
  OpenClaim.holds_of_wide 7 Try.f7 rfl rfl rfl rfl rfl rfl rfl ⟨rfl, rfl, rfl, rfl, rfl⟩ rfl rfl rfl rfl rfl (by kernel_rfl) Try.func7 (by kernel_rfl)
    (of_decide_eq_true (by kernel_rfl)) (by unfold Func.isWrapper; first | (rw [if_pos (by decide +kernel)]; kernel_rfl) | (rw [if_neg (by decide +kernel)]; exact ⟨rfl, rfl⟩))
    (fun os started H enc _ => lifted os started H enc)
#print axioms proved

end Go.Proofs.Ytgdknabpdjohgab.lawPairsOther
