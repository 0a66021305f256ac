/- OctetBounds (2.2) answers true at every three bytes, and turns nothing. No conditions. -/
import Derived.Test.YtgdknabpdjohgaaOctetC
import Derived.Test.YtgdknabpdjohgaaScalarR
import Derived.Test.YtgdknabpdjohgaaFrame
import Derived.Test.YtgdknabpdjohgaaRows
import Derived.ProofKit
namespace Go.Proofs.Ytgdknabpdjohgaa.lawOctetBounds
open Go.ChangeShapes Go.WideShapes Go.ChangeAt Go.RowKit
theorem beq_bytes (l : List UInt8) : (l == l) = true := beq_self_eq_true l
set_option maxRecDepth 100000 in
theorem walk (a : Int) (wa : (Lit.int .u8 a).wf = true) (b : Int) (wb : (Lit.int .u8 b).wf = true) (c : Int) (wc : (Lit.int .u8 c).wf = true) (w : World) : Calls Try.prog 5 #[.int .u8 a, .int .u8 b, .int .u8 c] w (Yes w) := by
  obtain ⟨a0, a1⟩ : 0 ≤ a ∧ a ≤ 255 := by have := bounds_u8 wa; omega
  obtain ⟨b0, b1⟩ : 0 ≤ b ∧ b ≤ 255 := by have := bounds_u8 wb; omega
  obtain ⟨c0, c1⟩ : 0 ≤ c ∧ c ≤ 255 := by have := bounds_u8 wc; omega
  clear wa wb wc
  by_cases hl : leadI a = 3
  · have hl2 : 224 ≤ a ∧ a ≤ 239 ∧ bitsI a = a % 16 := by
      have : 224 ≤ a ∧ a ≤ 239 := by unfold leadI at hl; omega
      exact ⟨this.1, this.2, by unfold bitsI; rw [hl]; simp⟩
    obtain ⟨g1, g2, g3⟩ := hl2
    have HL := Lib.hid hl
    have G3 := Lib.hid g3
    clear g3
    rcases (by omega : b < lo2 a ∨ (lo2 a ≤ b ∧ hi2 a < b) ∨ (lo2 a ≤ b ∧ b ≤ hi2 a)) with h1 | ⟨h1, h2⟩ | ⟨h1, h2⟩
    · clear hl
      go_enter Try.func5, Try.ntmps5
      go_wp2_with fail
      refine (works2_any _).mono ?_
      rintro e w' ⟨rfl, rfl⟩
      go_wp2_with fail
      refine (lead_any a _ a0 a1).mono ?_
      rintro e w' ⟨rfl, rfl⟩
      rw [HL.out]
      go_wp2_with fail
      refine (second_any a _ a0 a1).mono ?_
      rintro e w' ⟨rfl, rfl⟩
      go_wp2
      go_ret
      exact ⟨rfl, Below.refl _ _⟩
    · clear hl
      go_enter Try.func5, Try.ntmps5
      go_wp2_with fail
      refine (works2_any _).mono ?_
      rintro e w' ⟨rfl, rfl⟩
      go_wp2_with fail
      refine (lead_any a _ a0 a1).mono ?_
      rintro e w' ⟨rfl, rfl⟩
      rw [HL.out]
      go_wp2_with fail
      refine (second_any a _ a0 a1).mono ?_
      rintro e w' ⟨rfl, rfl⟩
      go_wp2
      go_ret
      exact ⟨rfl, Below.refl _ _⟩
    · by_cases ht : 128 ≤ c ∧ c ≤ 191
      · obtain ⟨t1, t2⟩ := ht
        have hb2 : 128 ≤ b ∧ b ≤ 191 := by unfold lo2 at h1; unfold hi2 at h2; omega
        have hr : 2048 ≤ (a % 16 * 64 + b - 128) * 64 + c - 128 ∧ (a % 16 * 64 + b - 128) * 64 + c - 128 < 65536 ∧ ((a % 16 * 64 + b - 128) * 64 + c - 128 < 55296 ∨ 57343 < (a % 16 * 64 + b - 128) * 64 + c - 128) := by
          unfold lo2 at h1
          unfold hi2 at h2
          rw [hl] at h1 h2
          simp at h1 h2
          by_cases e1 : a = 224
          · simp [e1] at h1 h2 ⊢; omega
          · by_cases e2 : a = 237
            · simp [e2] at h1 h2 ⊢; omega
            · omega
        obtain ⟨q1, q2, q3⟩ := hr
        have hf : formL ((a % 16 * 64 + b - 128) * 64 + c - 128) = [a, b, c] := by
          have hv : validB ((a % 16 * 64 + b - 128) * 64 + c - 128) = true := validB_true.2 (by omega)
          unfold formL
          rw [if_neg (by simp [hv]), if_neg (by omega), if_neg (by omega), if_pos (by omega)]
          simp only [List.cons.injEq, and_true]
          omega
        have hs1 : 0 ≤ a % 16 ∧ a % 16 < 16 := by omega
        have HF := Lib.hid hf
        clear hf hl
        go_enter Try.func5, Try.ntmps5
        go_wp2_with fail
        refine (works2_any _).mono ?_
        rintro e w' ⟨rfl, rfl⟩
        go_wp2_with fail
        refine (lead_any a _ a0 a1).mono ?_
        rintro e w' ⟨rfl, rfl⟩
        rw [HL.out]
        go_wp2_with fail
        refine (second_any a _ a0 a1).mono ?_
        rintro e w' ⟨rfl, rfl⟩
        go_wp2_with fail
        refine (tail_yes c _ t1 t2).mono ?_
        rintro e w' ⟨rfl, rfl⟩
        go_wp2_with fail
        refine (bits_any a _ a0 a1).mono ?_
        rintro e w' ⟨rfl, rfl⟩
        rw [G3.out]
        go_wp2_with fail
        refine (refform_any _ _).mono ?_
        rintro e w1 ⟨v1, rfl, hh, bl⟩
        rw [HF.out] at hh
        have hn : Held .u8 (w1.alloc (.cells [Value.int .u8 a, .int .u8 b, .int .u8 c].toArray 5)) (.slice (some ⟨w1.heap.size, 0, none⟩) 3 3) [a, b, c] := held_new .u8 w1 [.int .u8 a, .int .u8 b, .int .u8 c] 5 3 3 [a, b, c] rfl rfl
        have hh2 := hh.below ((Below.refl _ w1).alloc (Nat.le_refl _) (.cells [Value.int .u8 a, .int .u8 b, .int .u8 c].toArray 5))
        go_wp2_with fail
        refine (bytes_any _ _ _ _ _ hh2 hn).mono ?_
        rintro e w' ⟨rfl, rfl⟩
        rw [beq_bytes]
        go_wp2
        go_ret
        exact ⟨rfl, bl.trans (((Below.refl _ _).alloc (Nat.le_refl _) _).mono bl.size)⟩
      · clear hl
        go_enter Try.func5, Try.ntmps5
        go_wp2_with fail
        refine (works2_any _).mono ?_
        rintro e w' ⟨rfl, rfl⟩
        go_wp2_with fail
        refine (lead_any a _ a0 a1).mono ?_
        rintro e w' ⟨rfl, rfl⟩
        rw [HL.out]
        go_wp2_with fail
        refine (second_any a _ a0 a1).mono ?_
        rintro e w' ⟨rfl, rfl⟩
        go_wp2_with fail
        refine (tail_no c _ c0 c1 (by omega)).mono ?_
        rintro e w' ⟨rfl, rfl⟩
        go_wp2
        go_ret
        exact ⟨rfl, Below.refl _ _⟩
  · have hne : ((leadI a) != 3) = true := by simpa using hl
    go_enter Try.func5, Try.ntmps5
    go_wp2_with fail
    refine (works2_any _).mono ?_
    rintro e w' ⟨rfl, rfl⟩
    go_wp2_with fail
    refine (lead_any a _ a0 a1).mono ?_
    rintro e w' ⟨rfl, rfl⟩
    go_wp2_with fail
    refine (works2_any _).mono ?_
    rintro e w' ⟨rfl, rfl⟩
    go_wp2
    go_ret
    exact ⟨rfl, Below.refl _ _⟩

set_option maxRecDepth 100000 in
theorem lifted (os : Os) (started : os.Started) (H : Type) (enc : TypeId × Value → H) :
    ReturnsInHanded {} Try.checked os 5 .any (Rows.octetBoundsSpec.pre6 enc Try.prog Try.f5 Rows.octetBoundsRow.domain false) (Rows.octetBoundsSpec.post enc Try.prog Try.f5 false true false false) := by
  refine law_frame_plain (C := Try.checked) (tb := 4) (by kernel_rfl) started (by kernel_rfl) Try.func5 (by kernel_rfl) (by kernel_rfl) Try.underlying4 rfl
    (by rw [Try.params5]; intro t ht; simp at ht; subst ht <;> exact ⟨by kernel_rfl, of_decide_eq_true (by kernel_rfl)⟩)
    (by rw [Try.params5]; intro ds hd; match ds, hd with | [_, _, _], _ => rfl)
    (ChangeSpec.witness6 (enc := enc) (C := Try.checked) false ⟨#[], #[.int .u8 0, .int .u8 0, .int .u8 0], []⟩ 8 (by kernel_rfl) (by kernel_rfl) (by kernel_rfl) (by kernel_rfl)) ?_
  intro W base args ds before hval hA
  rw [Try.params5] at hA hval
  obtain ⟨v0, vs0, d0, ds0, p0, q0, hargs, rfl, rfl, h0, r0⟩ := trodAll_cons hA
  obtain ⟨v1, vs1, d1, ds1, p1, q1, rfl, rfl, rfl, h1, r1⟩ := trodAll_cons r0
  obtain ⟨v2, vs2, d2, ds2, p2, q2, rfl, rfl, rfl, h2, r2⟩ := trodAll_cons r1
  obtain ⟨rfl, rfl, rfl⟩ := trodAll_nil r2
  obtain rfl : args = #[v0, v1, v2] := by cases args; simp_all
  obtain ⟨x0, rfl, rfl, rfl, wx0⟩ := open_int Try.underlying5 (hval 0 5 v0 rfl rfl) h0
  obtain ⟨x1, rfl, rfl, rfl, wx1⟩ := open_int Try.underlying5 (hval 1 5 v1 rfl rfl) h1
  obtain ⟨x2, rfl, rfl, rfl, wx2⟩ := open_int Try.underlying5 (hval 2 5 v2 rfl rfl) h2
  exact walk x0 wx0 x1 wx1 x2 wx2 W

theorem proved : Rows.OctetBoundsSaid :=
  OpenClaim.holds_of_wide 5 Try.f5 rfl rfl rfl rfl rfl rfl rfl ⟨rfl, rfl, rfl, rfl, rfl⟩ rfl rfl rfl rfl rfl (by kernel_rfl) Try.func5 (by kernel_rfl)
    (of_decide_eq_true (by kernel_rfl)) (by unfold Func.isWrapper; first | (rw [if_pos (by decide +kernel)]; kernel_rfl) | (rw [if_neg (by decide +kernel)]; exact ⟨rfl, rfl⟩))
    (fun os started H enc _ => lifted os started H enc)
#print axioms proved

end Go.Proofs.Ytgdknabpdjohgaa.lawOctetBounds
