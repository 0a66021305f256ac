/- BorderTells (17.1, 17.2) answers true at every row of numbers and every place, and turns nothing. No conditions. -/
import Derived.Test.YtbchdpgcjiepfaaBordW
import Derived.Test.YtbchdpgcjiepfaaFrame
import Derived.Test.YtbchdpgcjiepfaaRows
import Derived.ProofKit
namespace Go.Proofs.Ytbchdpgcjiepfaa.lawBorderTells
open Go.ChangeShapes Go.WideShapes Go.ChangeAt Go.RowKit
theorem ris_val (xs : List Int) (v : Value) (t : Int) (b : Bool) (h : isAt xs t = b) (w : World) (hx : Held .i32 w v xs) (hn : xs.length ≤ 1000000) (hr : bounds32 xs) : Calls Try.prog 10 #[v, .int .i64 t] w (Gives w (.bool b)) := h ▸ ris_any xs v t w hx hn hr
set_option maxRecDepth 100000 in
set_option maxHeartbeats 2000000 in
theorem walk (w : World) (v : Value) (xs : List Int) (hv : Held .i32 w v xs) (hp : ∀ x ∈ xs, (Lit.int .i32 x).wf = true) (t : Int) (_wt : (Lit.int .i64 t).wf = true) : Calls Try.prog 3 #[v, .int .i64 t] w (Yes w) := by
  have HR := Lib.hid (show bounds32 xs from fun i hi => bounds_i32 (hp _ (by simp [List.getD, List.getElem?_eq_getElem hi])))
  obtain ⟨ao, ca, rfl, _⟩ := hv.view
  have HV := Lib.hid hv
  clear hv hp _wt
  by_cases hl : 60 < xs.length
  · go_enter Try.func3, Try.ntmps3
    go_wp2_with fail
    refine (works17_any _).mono ?_
    rintro e w1 ⟨rfl, b1⟩
    go_wp2_with fail
    refine (works17_any _).mono ?_
    rintro e w2 ⟨rfl, b2⟩
    have b2 := b1.trans (b2.mono b1.size)
    go_wp2
    go_ret
    exact ⟨(ret_eq (by first | rfl | (simp <;> omega))), b2⟩
  have hn : xs.length ≤ 1000000 := by omega
  have hcs : (isAt xs t = true ∧ decide (0 ≤ t) = true) ∨ isAt xs t = false := by
    cases h : isAt xs t with
    | true => exact .inl ⟨rfl, decide_eq_true (isAt_nonneg h)⟩
    | false => exact .inr rfl
  have hc : xs.length = 0 ∧ fromA xs t = 0 ∧ toA xs t = 0 ∨ 0 < xs.length ∧ fromA xs t = upTo' xs (clampI xs.length t) ∧ toA xs t = nextTo xs (clampI xs.length t) ∧ ((t ≤ 0 ∧ clampI xs.length t = 0) ∨ (0 < t ∧ t ≤ (xs.length : Int) - 1 ∧ clampI xs.length t = t) ∨ (0 < (xs.length : Int) - 1 ∧ (xs.length : Int) - 1 < t ∧ clampI xs.length t = (xs.length : Int) - 1) ∨ ((xs.length : Int) - 1 ≤ 0 ∧ (xs.length : Int) - 1 < t ∧ 0 < t ∧ clampI xs.length t = 0)) := by
    by_cases h0 : xs.length = 0
    · exact .inl ⟨h0, by unfold fromA; rw [if_pos h0], by unfold toA; rw [if_pos h0]⟩
    · refine .inr ⟨by omega, by unfold fromA; rw [if_neg h0], by unfold toA; rw [if_neg h0], ?_⟩
      unfold clampI; omega
  rcases hc with ⟨h0, hf, ht⟩ | ⟨hpos, hf, ht, ⟨h1, hs⟩ | ⟨h1, h2, hs⟩ | ⟨h1, h2, hs⟩ | ⟨h1, h2, h3, hs⟩⟩
  · have HA := Lib.hid (fun w hx => around_val xs (.slice ao xs.length ca) t 0 0 hf ht w hx hn)
    clear hf ht
    rw [h0] at HV HA
    rw [h0]
    rcases hcs with ⟨hi, ht⟩ | hi
    all_goals
      have HI := Lib.hid hi
      clear hi
      go_enter Try.func3, Try.ntmps3
      go_wp2_with fail
      refine (works17_any _).mono ?_
      rintro e w1 ⟨rfl, b1⟩
      go_wp2_with fail
      refine (HA.out _ (HV.out.below b1)).mono ?_
      rintro e w2 ⟨rfl, b2⟩
      have b2 := b1.trans (b2.mono b1.size)
      go_wp2_with fail
      refine (is_val xs _ t _ HI.out _ (HV.out.below b2) hn).mono ?_
      rintro e w3 ⟨rfl, b3⟩
      have b3 := b2.trans (b3.mono b2.size)
      go_wp2_with fail
      refine (ris_val xs _ t _ HI.out _ (HV.out.below b3) hn HR.out).mono ?_
      rintro e w4 ⟨rfl, b4⟩
      have b4 := b3.trans (b4.mono b3.size)
      go_wp2_with fail
      refine (next_any xs _ t _ (HV.out.below b4) hn).mono ?_
      rintro e w5 ⟨rfl, b5⟩
      have b5 := b4.trans (b5.mono b4.size)
      go_wp2_with fail
      refine (rnext_any xs _ t _ (HV.out.below b5) hn HR.out).mono ?_
      rintro e w6 ⟨rfl, b6⟩
      have b6 := b5.trans (b6.mono b5.size)
      go_wp2_with fail
      refine (prev_any xs _ t _ (HV.out.below b6) hn).mono ?_
      rintro e w7 ⟨rfl, b7⟩
      have b7 := b6.trans (b7.mono b6.size)
      go_wp2_with fail
      refine (rprev_any xs _ t _ (HV.out.below b7) hn HR.out).mono ?_
      rintro e w8 ⟨rfl, b8⟩
      have b8 := b7.trans (b8.mono b7.size)
      go_wp2_with fail
      refine (snap_any xs _ t _ (HV.out.below b8) hn).mono ?_
      rintro e w9 ⟨rfl, b9⟩
      have b9 := b8.trans (b9.mono b8.size)
      go_wp2_with fail
      refine (rsnap_any xs _ t _ (HV.out.below b9) hn HR.out).mono ?_
      rintro e w10 ⟨rfl, b10⟩
      have b10 := b9.trans (b10.mono b9.size)
      go_wp2
      go_ret
      exact ⟨(ret_eq (by first | rfl | (simp <;> omega))), b10⟩
  · rw [hs] at hf ht
    have HA := Lib.hid (fun w hx => around_val xs (.slice ao xs.length ca) t _ _ hf ht w hx hn)
    clear hf ht hs
    rcases hcs with ⟨hi, ht⟩ | hi
    all_goals
      have HI := Lib.hid hi
      clear hi
      go_enter Try.func3, Try.ntmps3
      go_wp2_with fail
      refine (works17_any _).mono ?_
      rintro e w1 ⟨rfl, b1⟩
      go_wp2_with fail
      refine (HA.out _ (HV.out.below b1)).mono ?_
      rintro e wa ⟨rfl, ba⟩
      have ba := b1.trans (ba.mono b1.size)
      go_wp2_with fail
      refine (rsnap_any xs _ _ _ (HV.out.below ba) hn HR.out).mono ?_
      rintro e wb ⟨rfl, bb⟩
      have bb := ba.trans (bb.mono ba.size)
      go_wp2_with fail
      refine (rnext_any xs _ _ _ (HV.out.below bb) hn HR.out).mono ?_
      rintro e w2 ⟨rfl, b2⟩
      have b2 := bb.trans (b2.mono bb.size)
      go_wp2_with fail
      refine (is_val xs _ t _ HI.out _ (HV.out.below b2) hn).mono ?_
      rintro e w3 ⟨rfl, b3⟩
      have b3 := b2.trans (b3.mono b2.size)
      go_wp2_with fail
      refine (ris_val xs _ t _ HI.out _ (HV.out.below b3) hn HR.out).mono ?_
      rintro e w4 ⟨rfl, b4⟩
      have b4 := b3.trans (b4.mono b3.size)
      go_wp2_with fail
      refine (next_any xs _ t _ (HV.out.below b4) hn).mono ?_
      rintro e w5 ⟨rfl, b5⟩
      have b5 := b4.trans (b5.mono b4.size)
      go_wp2_with fail
      refine (rnext_any xs _ t _ (HV.out.below b5) hn HR.out).mono ?_
      rintro e w6 ⟨rfl, b6⟩
      have b6 := b5.trans (b6.mono b5.size)
      go_wp2_with fail
      refine (prev_any xs _ t _ (HV.out.below b6) hn).mono ?_
      rintro e w7 ⟨rfl, b7⟩
      have b7 := b6.trans (b7.mono b6.size)
      go_wp2_with fail
      refine (rprev_any xs _ t _ (HV.out.below b7) hn HR.out).mono ?_
      rintro e w8 ⟨rfl, b8⟩
      have b8 := b7.trans (b8.mono b7.size)
      go_wp2_with fail
      refine (snap_any xs _ t _ (HV.out.below b8) hn).mono ?_
      rintro e w9 ⟨rfl, b9⟩
      have b9 := b8.trans (b9.mono b8.size)
      go_wp2_with fail
      refine (rsnap_any xs _ t _ (HV.out.below b9) hn HR.out).mono ?_
      rintro e w10 ⟨rfl, b10⟩
      have b10 := b9.trans (b10.mono b9.size)
      go_wp2
      go_ret
      exact ⟨(ret_eq (by first | rfl | (simp <;> omega))), b10⟩
  · rw [hs] at hf ht
    have HA := Lib.hid (fun w hx => around_val xs (.slice ao xs.length ca) t _ _ hf ht w hx hn)
    clear hf ht hs
    rcases hcs with ⟨hi, ht⟩ | hi
    all_goals
      have HI := Lib.hid hi
      clear hi
      go_enter Try.func3, Try.ntmps3
      go_wp2_with fail
      refine (works17_any _).mono ?_
      rintro e w1 ⟨rfl, b1⟩
      go_wp2_with fail
      refine (HA.out _ (HV.out.below b1)).mono ?_
      rintro e wa ⟨rfl, ba⟩
      have ba := b1.trans (ba.mono b1.size)
      go_wp2_with fail
      refine (rsnap_any xs _ _ _ (HV.out.below ba) hn HR.out).mono ?_
      rintro e wb ⟨rfl, bb⟩
      have bb := ba.trans (bb.mono ba.size)
      go_wp2_with fail
      refine (rnext_any xs _ _ _ (HV.out.below bb) hn HR.out).mono ?_
      rintro e w2 ⟨rfl, b2⟩
      have b2 := bb.trans (b2.mono bb.size)
      go_wp2_with fail
      refine (is_val xs _ t _ HI.out _ (HV.out.below b2) hn).mono ?_
      rintro e w3 ⟨rfl, b3⟩
      have b3 := b2.trans (b3.mono b2.size)
      go_wp2_with fail
      refine (ris_val xs _ t _ HI.out _ (HV.out.below b3) hn HR.out).mono ?_
      rintro e w4 ⟨rfl, b4⟩
      have b4 := b3.trans (b4.mono b3.size)
      go_wp2_with fail
      refine (next_any xs _ t _ (HV.out.below b4) hn).mono ?_
      rintro e w5 ⟨rfl, b5⟩
      have b5 := b4.trans (b5.mono b4.size)
      go_wp2_with fail
      refine (rnext_any xs _ t _ (HV.out.below b5) hn HR.out).mono ?_
      rintro e w6 ⟨rfl, b6⟩
      have b6 := b5.trans (b6.mono b5.size)
      go_wp2_with fail
      refine (prev_any xs _ t _ (HV.out.below b6) hn).mono ?_
      rintro e w7 ⟨rfl, b7⟩
      have b7 := b6.trans (b7.mono b6.size)
      go_wp2_with fail
      refine (rprev_any xs _ t _ (HV.out.below b7) hn HR.out).mono ?_
      rintro e w8 ⟨rfl, b8⟩
      have b8 := b7.trans (b8.mono b7.size)
      go_wp2_with fail
      refine (snap_any xs _ t _ (HV.out.below b8) hn).mono ?_
      rintro e w9 ⟨rfl, b9⟩
      have b9 := b8.trans (b9.mono b8.size)
      go_wp2_with fail
      refine (rsnap_any xs _ t _ (HV.out.below b9) hn HR.out).mono ?_
      rintro e w10 ⟨rfl, b10⟩
      have b10 := b9.trans (b10.mono b9.size)
      go_wp2
      go_ret
      exact ⟨(ret_eq (by first | rfl | (simp <;> omega))), b10⟩
  · rw [hs] at hf ht
    have HA := Lib.hid (fun w hx => around_val xs (.slice ao xs.length ca) t _ _ hf ht w hx hn)
    clear hf ht hs
    rcases hcs with ⟨hi, ht⟩ | hi
    all_goals
      have HI := Lib.hid hi
      clear hi
      go_enter Try.func3, Try.ntmps3
      go_wp2_with fail
      refine (works17_any _).mono ?_
      rintro e w1 ⟨rfl, b1⟩
      go_wp2_with fail
      refine (HA.out _ (HV.out.below b1)).mono ?_
      rintro e wa ⟨rfl, ba⟩
      have ba := b1.trans (ba.mono b1.size)
      go_wp2_with fail
      refine (rsnap_any xs _ _ _ (HV.out.below ba) hn HR.out).mono ?_
      rintro e wb ⟨rfl, bb⟩
      have bb := ba.trans (bb.mono ba.size)
      go_wp2_with fail
      refine (rnext_any xs _ _ _ (HV.out.below bb) hn HR.out).mono ?_
      rintro e w2 ⟨rfl, b2⟩
      have b2 := bb.trans (b2.mono bb.size)
      go_wp2_with fail
      refine (is_val xs _ t _ HI.out _ (HV.out.below b2) hn).mono ?_
      rintro e w3 ⟨rfl, b3⟩
      have b3 := b2.trans (b3.mono b2.size)
      go_wp2_with fail
      refine (ris_val xs _ t _ HI.out _ (HV.out.below b3) hn HR.out).mono ?_
      rintro e w4 ⟨rfl, b4⟩
      have b4 := b3.trans (b4.mono b3.size)
      go_wp2_with fail
      refine (next_any xs _ t _ (HV.out.below b4) hn).mono ?_
      rintro e w5 ⟨rfl, b5⟩
      have b5 := b4.trans (b5.mono b4.size)
      go_wp2_with fail
      refine (rnext_any xs _ t _ (HV.out.below b5) hn HR.out).mono ?_
      rintro e w6 ⟨rfl, b6⟩
      have b6 := b5.trans (b6.mono b5.size)
      go_wp2_with fail
      refine (prev_any xs _ t _ (HV.out.below b6) hn).mono ?_
      rintro e w7 ⟨rfl, b7⟩
      have b7 := b6.trans (b7.mono b6.size)
      go_wp2_with fail
      refine (rprev_any xs _ t _ (HV.out.below b7) hn HR.out).mono ?_
      rintro e w8 ⟨rfl, b8⟩
      have b8 := b7.trans (b8.mono b7.size)
      go_wp2_with fail
      refine (snap_any xs _ t _ (HV.out.below b8) hn).mono ?_
      rintro e w9 ⟨rfl, b9⟩
      have b9 := b8.trans (b9.mono b8.size)
      go_wp2_with fail
      refine (rsnap_any xs _ t _ (HV.out.below b9) hn HR.out).mono ?_
      rintro e w10 ⟨rfl, b10⟩
      have b10 := b9.trans (b10.mono b9.size)
      go_wp2
      go_ret
      exact ⟨(ret_eq (by first | rfl | (simp <;> omega))), b10⟩
  · rw [hs] at hf ht
    have HA := Lib.hid (fun w hx => around_val xs (.slice ao xs.length ca) t _ _ hf ht w hx hn)
    clear hf ht hs
    rcases hcs with ⟨hi, ht⟩ | hi
    all_goals
      have HI := Lib.hid hi
      clear hi
      go_enter Try.func3, Try.ntmps3
      go_wp2_with fail
      refine (works17_any _).mono ?_
      rintro e w1 ⟨rfl, b1⟩
      go_wp2_with fail
      refine (HA.out _ (HV.out.below b1)).mono ?_
      rintro e wa ⟨rfl, ba⟩
      have ba := b1.trans (ba.mono b1.size)
      go_wp2_with fail
      refine (rsnap_any xs _ _ _ (HV.out.below ba) hn HR.out).mono ?_
      rintro e wb ⟨rfl, bb⟩
      have bb := ba.trans (bb.mono ba.size)
      go_wp2_with fail
      refine (rnext_any xs _ _ _ (HV.out.below bb) hn HR.out).mono ?_
      rintro e w2 ⟨rfl, b2⟩
      have b2 := bb.trans (b2.mono bb.size)
      go_wp2_with fail
      refine (is_val xs _ t _ HI.out _ (HV.out.below b2) hn).mono ?_
      rintro e w3 ⟨rfl, b3⟩
      have b3 := b2.trans (b3.mono b2.size)
      go_wp2_with fail
      refine (ris_val xs _ t _ HI.out _ (HV.out.below b3) hn HR.out).mono ?_
      rintro e w4 ⟨rfl, b4⟩
      have b4 := b3.trans (b4.mono b3.size)
      go_wp2_with fail
      refine (next_any xs _ t _ (HV.out.below b4) hn).mono ?_
      rintro e w5 ⟨rfl, b5⟩
      have b5 := b4.trans (b5.mono b4.size)
      go_wp2_with fail
      refine (rnext_any xs _ t _ (HV.out.below b5) hn HR.out).mono ?_
      rintro e w6 ⟨rfl, b6⟩
      have b6 := b5.trans (b6.mono b5.size)
      go_wp2_with fail
      refine (prev_any xs _ t _ (HV.out.below b6) hn).mono ?_
      rintro e w7 ⟨rfl, b7⟩
      have b7 := b6.trans (b7.mono b6.size)
      go_wp2_with fail
      refine (rprev_any xs _ t _ (HV.out.below b7) hn HR.out).mono ?_
      rintro e w8 ⟨rfl, b8⟩
      have b8 := b7.trans (b8.mono b7.size)
      go_wp2_with fail
      refine (snap_any xs _ t _ (HV.out.below b8) hn).mono ?_
      rintro e w9 ⟨rfl, b9⟩
      have b9 := b8.trans (b9.mono b8.size)
      go_wp2_with fail
      refine (rsnap_any xs _ t _ (HV.out.below b9) hn HR.out).mono ?_
      rintro e w10 ⟨rfl, b10⟩
      have b10 := b9.trans (b10.mono b9.size)
      go_wp2
      go_ret
      exact ⟨(ret_eq (by first | rfl | (simp <;> omega))), b10⟩

set_option maxRecDepth 100000 in
theorem lifted (os : Os) (started : os.Started) (H : Type) (enc : TypeId × Value → H) :
    ReturnsInHanded {} Try.checked os 3 .any (Rows.borderTellsSpec.pre6 enc Try.prog Try.f3 Rows.borderTellsRow.domain false) (Rows.borderTellsSpec.post enc Try.prog Try.f3 false true false false) := by
  refine law_frame_plain (C := Try.checked) (tb := 4) (by kernel_rfl) started (by kernel_rfl) Try.func3 (by kernel_rfl) (by kernel_rfl) Try.underlying4 rfl
    (by rw [Try.params3]; intro t ht; simp at ht; rcases ht with rfl | rfl <;> exact ⟨by kernel_rfl, of_decide_eq_true (by kernel_rfl)⟩)
    (by rw [Try.params3]; intro ds hd; match ds, hd with | [_, _], _ => rfl)
    (ChangeSpec.witness6 (enc := enc) (C := Try.checked) false ⟨#[], #[.slice none 0 0, .int .i64 0], []⟩ 8 (by kernel_rfl) (by kernel_rfl) (by kernel_rfl) (by kernel_rfl)) ?_
  intro W base args ds before hval hA
  rw [Try.params3] at hA hval
  obtain ⟨v0, vs0, d0, ds0, p0, q0, hargs, rfl, rfl, h0, r0⟩ := trodAll_cons hA
  obtain ⟨v1, vs1, d1, ds1, p1, q1, rfl, rfl, rfl, h1, r1⟩ := trodAll_cons r0
  obtain ⟨rfl, rfl, rfl⟩ := trodAll_nil r1
  obtain rfl : args = #[v0, v1] := by cases args; simp_all
  obtain ⟨x0, hx0, wx0⟩ := held_arg Try.underlying22 Try.underlying21 (by kernel_rfl) (hval 0 22 v0 rfl rfl) h0
  obtain ⟨x1, rfl, rfl, rfl, wx1⟩ := open_int Try.underlying3 (hval 1 3 v1 rfl rfl) h1
  exact walk W v0 x0 hx0 wx0 x1 wx1

theorem proved : Rows.BorderTellsSaid :=
  OpenClaim.holds_of_wide 3 Try.f3 rfl rfl rfl rfl rfl rfl rfl ⟨rfl, rfl, rfl, rfl, rfl⟩ rfl rfl rfl rfl rfl (by kernel_rfl) Try.func3 (by kernel_rfl)
    (of_decide_eq_true (by kernel_rfl)) (by unfold Func.isWrapper; first | (rw [if_pos (by decide +kernel)]; kernel_rfl) | (rw [if_neg (by decide +kernel)]; exact ⟨rfl, rfl⟩))
    (fun os started H enc _ => lifted os started H enc)
#print axioms proved

end Go.Proofs.Ytbchdpgcjiepfaa.lawBorderTells
