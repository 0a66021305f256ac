/- HangulTells (8.1, 8.2) answers true at every number, and turns nothing. No conditions. -/
import Derived.Test.YtgdknabpdjohgaaHangulR
import Derived.Test.YtgdknabpdjohgaaFrame
import Derived.Test.YtgdknabpdjohgaaRows
import Derived.ProofKit
namespace Go.Proofs.Ytgdknabpdjohgaa.lawHangulTells
open Go.ChangeShapes Go.WideShapes Go.ChangeAt Go.RowKit
theorem spL_iff (r : Int) : (decide (0 < spL r)) = isSyl r := by
  rcases isSyl_cases r with ⟨_, hs⟩ | ⟨_, _, hs⟩ | ⟨_, hs⟩ <;> simp [spL, hs]
  omega
theorem walk (r : Int) (wr : (Lit.int .i32 r).wf = true) (w : World) : Calls Try.prog 14 #[.int .i32 r] w (Yes w) := by
  obtain ⟨b1, b2⟩ := bounds_i32 wr
  have hs : (spL r > 0 ∧ isSyl r = true) ∨ (¬ spL r > 0 ∧ isSyl r = false) := by
    have := spL_iff r
    cases h : isSyl r
    · rw [h] at this; simp at this; exact .inr ⟨by omega, rfl⟩
    · rw [h] at this; simp at this; exact .inl ⟨by omega, rfl⟩
  have q1 : -2147483648 ≤ spL r ∧ spL r ≤ 2147483647 := by unfold spL; split <;> omega
  have q2 : -2147483648 ≤ spV r ∧ spV r ≤ 2147483647 := by unfold spV; split <;> omega
  have q3 : -2147483648 ≤ spT r ∧ spT r ≤ 2147483647 := by unfold spT; split <;> omega
  rcases hs with ⟨h1, hs⟩ | ⟨h1, hs⟩
  all_goals
    have HS := Lib.hid hs
    clear hs
    go_enter Try.func14, Try.ntmps14
    go_wp2_with fail
    refine (split_any r _).mono ?_
    rintro e w' ⟨rfl, rfl⟩
    go_wp2_with fail
    refine (refsplit_any r _ b1 b2).mono ?_
    rintro e w' ⟨rfl, rfl⟩
    go_wp2_with (first
      | (go_at_call 45; refine (syllable_any r _).mono ?_; rintro e w' ⟨rfl, rfl⟩; rw [HS.out])
      | (go_at_call 46; refine (class_any r _).mono ?_; rintro e w' ⟨rfl, rfl⟩)
      | (go_at_call 47; refine (refclass_any r _ b1 b2).mono ?_; rintro e w' ⟨rfl, rfl⟩)
      | (go_at_call 48; refine (works8_any _).mono ?_; rintro e w' ⟨rfl, rfl⟩))
    go_ret
    exact ⟨ret_eq (by first | rfl | (simp; omega)), Below.refl _ _⟩

set_option maxRecDepth 100000 in
theorem lifted (os : Os) (started : os.Started) (H : Type) (enc : TypeId × Value → H) :
    ReturnsInHanded {} Try.checked os 14 .any (Rows.hangulTellsSpec.pre6 enc Try.prog Try.f14 Rows.hangulTellsRow.domain false) (Rows.hangulTellsSpec.post enc Try.prog Try.f14 false true false false) := by
  refine law_frame_plain (C := Try.checked) (tb := 4) (by kernel_rfl) started (by kernel_rfl) Try.func14 (by kernel_rfl) (by kernel_rfl) Try.underlying4 rfl
    (by rw [Try.params14]; intro t ht; simp at ht; subst ht <;> exact ⟨by kernel_rfl, of_decide_eq_true (by kernel_rfl)⟩)
    (by rw [Try.params14]; intro ds hd; match ds, hd with | [_], _ => rfl)
    (ChangeSpec.witness6 (enc := enc) (C := Try.checked) false ⟨#[], #[.int .i32 0], []⟩ 8 (by kernel_rfl) (by kernel_rfl) (by kernel_rfl) (by kernel_rfl)) ?_
  intro W base args ds before hval hA
  rw [Try.params14] at hA hval
  obtain ⟨v0, vs0, d0, ds0, p0, q0, hargs, rfl, rfl, h0, r0⟩ := trodAll_cons hA
  obtain ⟨rfl, rfl, rfl⟩ := trodAll_nil r0
  obtain rfl : args = #[v0] := by cases args; simp_all
  obtain ⟨x0, rfl, rfl, rfl, wx0⟩ := open_int Try.underlying21 (hval 0 21 v0 rfl rfl) h0
  exact walk x0 wx0 W

theorem proved : Rows.HangulTellsSaid :=
  OpenClaim.holds_of_wide 14 Try.f14 rfl rfl rfl rfl rfl rfl rfl ⟨rfl, rfl, rfl, rfl, rfl⟩ rfl rfl rfl rfl rfl (by kernel_rfl) Try.func14 (by kernel_rfl)
    (of_decide_eq_true (by kernel_rfl)) (by unfold Func.isWrapper; first | (rw [if_pos (by decide +kernel)]; kernel_rfl) | (rw [if_neg (by decide +kernel)]; exact ⟨rfl, rfl⟩))
    (fun os started H enc _ => lifted os started H enc)
#print axioms proved

end Go.Proofs.Ytgdknabpdjohgaa.lawHangulTells
