/- OctetForms (2.1, 2.2) answers true at every number, and turns nothing. No conditions. -/
import Derived.Test.YtgdknabpdjohgaaOctetC
import Derived.Test.YtgdknabpdjohgaaScalarR
import Derived.Test.YtgdknabpdjohgaaFrame
import Derived.Test.YtgdknabpdjohgaaRows
import Derived.ProofKit
namespace Go.Proofs.Ytgdknabpdjohgaa.lawOctetForms
open Go.ChangeShapes Go.WideShapes Go.ChangeAt Go.RowKit
/-- The number of the first k bytes. -/
def numK (xs : List Int) : Nat → Int
  | 0 => 0
  | 1 => bitsI (xs.getD 0 0)
  | k + 2 => numK xs (k + 1) * 64 + xs.getD (k + 1) 0 - 128
theorem form_facts (r : Int) (hv : validB r = true) :
    leadI ((formL r).getD 0 0) = (formL r).length ∧ 1 ≤ (formL r).length ∧ (formL r).length ≤ 4 ∧ 0 ≤ (formL r).getD 0 0 ∧ (formL r).getD 0 0 ≤ 255 ∧ numK (formL r) (formL r).length = r ∧
    (∀ i, 1 ≤ i → i < (formL r).length → 128 ≤ (formL r).getD i 0 ∧ (formL r).getD i 0 ≤ 191) ∧
    (∀ k, 1 ≤ k → k ≤ (formL r).length → 0 ≤ numK (formL r) k ∧ numK (formL r) k ≤ 1114111) ∧
    (1 < (formL r).length → lo2 ((formL r).getD 0 0) ≤ (formL r).getD 1 0 ∧ (formL r).getD 1 0 ≤ hi2 ((formL r).getD 0 0)) := by
  obtain ⟨h0, h1, h2⟩ := validB_true.1 hv
  have e : formL r = if r < 128 then [r] else if r < 2048 then [192 + r / 64, 128 + r % 64]
    else if r < 65536 then [224 + r / 4096, 128 + r / 64 % 64, 128 + r % 64] else [240 + r / 262144, 128 + r / 4096 % 64, 128 + r / 64 % 64, 128 + r % 64] := by simp [formL, hv]
  by_cases a1 : r < 128
  · rw [e, if_pos a1]
    have l1 : leadI r = 1 := by unfold leadI; omega
    refine ⟨by simpa using l1, by simp, by simp, by simp; omega, by simp; omega, by simp [numK, bitsI, l1], ?_, ?_, ?_⟩
    · intro i i1 i2; simp at i2; omega
    · intro k i1 i2
      simp at i2
      obtain rfl : k = 1 := by omega
      simp [numK, bitsI, l1]; omega
    · intro i1; simp at i1
  · by_cases a2 : r < 2048
    · rw [e, if_neg a1, if_pos a2]
      have l1 : leadI (192 + r / 64) = 2 := by unfold leadI; omega
      refine ⟨by simpa using l1, by simp, by simp, by simp; omega, by simp; omega, ?_, ?_, ?_, ?_⟩
      · simp [numK, bitsI, l1]; omega
      · intro i i1 i2
        simp at i2
        obtain rfl : i = 1 := by omega
        simp; omega
      · intro k i1 i2
        simp at i2
        obtain rfl | rfl : k = 1 ∨ k = 2 := by omega
        all_goals (simp [numK, bitsI, l1]; try omega)
      · intro _; simp [lo2, hi2, l1]; omega
    · by_cases a3 : r < 65536
      · rw [e, if_neg a1, if_neg a2, if_pos a3]
        have l1 : leadI (224 + r / 4096) = 3 := by unfold leadI; omega
        refine ⟨by simpa using l1, by simp, by simp, by simp; omega, by simp; omega, ?_, ?_, ?_, ?_⟩
        · simp [numK, bitsI, l1]; omega
        · intro i i1 i2
          simp at i2
          obtain rfl | rfl : i = 1 ∨ i = 2 := by omega
          all_goals simp; omega
        · intro k i1 i2
          simp at i2
          obtain rfl | rfl | rfl : k = 1 ∨ k = 2 ∨ k = 3 := by omega
          all_goals (simp [numK, bitsI, l1]; try omega)
        · intro _; simp [lo2, hi2, l1]; omega
      · rw [e, if_neg a1, if_neg a2, if_neg a3]
        have l1 : leadI (240 + r / 262144) = 4 := by unfold leadI; omega
        refine ⟨by simpa using l1, by simp, by simp, by simp; omega, by simp; omega, ?_, ?_, ?_, ?_⟩
        · simp [numK, bitsI, l1]; omega
        · intro i i1 i2
          simp at i2
          obtain rfl | rfl | rfl : i = 1 ∨ i = 2 ∨ i = 3 := by omega
          all_goals simp; omega
        · intro k i1 i2
          simp at i2
          obtain rfl | rfl | rfl | rfl : k = 1 ∨ k = 2 ∨ k = 3 ∨ k = 4 := by omega
          all_goals (simp [numK, bitsI, l1]; try omega)
        · intro _; simp [lo2, hi2, l1]; omega
theorem numK_succ (xs : List Int) (k : Nat) (h : 1 ≤ k) : numK xs (k + 1) = numK xs k * 64 + xs.getD k 0 - 128 := by
  obtain ⟨j, rfl⟩ : ∃ j, k = j + 1 := ⟨k - 1, by omega⟩
  rfl
set_option maxRecDepth 100000 in
theorem walk (r : Int) (wr : (Lit.int .i32 r).wf = true) (w : World) : Calls Try.prog 4 #[.int .i32 r] w (Yes w) := by
  clear wr
  cases hv : validB r with
  | false =>
    have HV := Lib.hid hv
    clear hv
    go_enter Try.func4, Try.ntmps4
    go_wp2_with fail
    refine (works2_any _).mono ?_
    rintro e w' ⟨rfl, rfl⟩
    go_wp2_with fail
    refine (refvalid_any _ _).mono ?_
    rintro e w' ⟨rfl, rfl⟩
    rw [HV.out]
    go_wp2_with fail
    refine (works2_any _).mono ?_
    rintro e w' ⟨rfl, rfl⟩
    go_wp2
    go_ret
    exact ⟨rfl, Below.refl _ _⟩
  | true =>
    obtain ⟨f1, f2, f3, f4, f5, f6, f7, f8, f9⟩ := form_facts r hv
    obtain ⟨r0, r1, _⟩ := validB_true.1 hv
    have HV := Lib.hid hv
    have H1 := Lib.hid f1
    have H6 := Lib.hid f6
    have H7 := Lib.hid f7
    have H8 := Lib.hid f8
    have H9 := Lib.hid f9
    clear hv f1 f6 f7 f8 f9
    go_enter Try.func4, Try.ntmps4
    go_wp2_with fail
    refine (works2_any _).mono ?_
    rintro e w' ⟨rfl, rfl⟩
    go_wp2_with fail
    refine (refvalid_any _ _).mono ?_
    rintro e w' ⟨rfl, rfl⟩
    rw [HV.out]
    go_wp2_with fail
    refine (refform_any _ _).mono ?_
    rintro e w1 ⟨v1, rfl, hh, b1⟩
    obtain ⟨ao, cap, rfl, hc⟩ := hh.view
    clear hh
    generalize formL r = xs at *
    obtain ⟨b, off, rfl, hb, hc0⟩ := hc 0 (by omega)
    have HC := Lib.hid hc
    clear hc
    rw [Nat.add_zero] at hc0
    generalize hx0 : xs.getD 0 0 = x0 at *
    have HX0 := Lib.hid hx0
    clear hx0
    go_wp2_with fail
    refine (lead_any x0 _ f4 f5).mono ?_
    rintro e w' ⟨rfl, rfl⟩
    rw [H1.out]
    go_wp2_with fail
    refine (bits_any x0 _ f4 f5).mono ?_
    rintro e w' ⟨rfl, rfl⟩
    go_wp2
    go_loopw [4, 5] (fun n i wr => ∃ k : Nat, 1 ≤ k ∧ k ≤ xs.length ∧ i = .int .i64 k ∧ n = .int .i64 (numK xs k) ∧ Below w1.heap.size w1 wr) (fun _ i _ => xs.length - (intOf i).toNat)
    case atStart => exact ⟨1, by omega, by omega, rfl, by show Value.int .i64 (bitsI x0) = .int .i64 (bitsI (xs.getD 0 0)); rw [HX0.out], Below.refl _ _⟩
    case round =>
      obtain ⟨k, hk1, hk, rfl, rfl, hbw⟩ := hrel
      obtain ⟨n0, n1⟩ := H8.out k hk1 hk
      by_cases hlt : k < xs.length
      · obtain ⟨b', o', e1, _, hck⟩ := HC.out k hlt
        cases e1
        obtain ⟨x1, x2⟩ := H7.out k hk1 hlt
        have hsn := numK_succ xs k hk1
        have HS := Lib.hid hsn
        clear hsn
        have hc0 := (hbw.cell (p := ⟨b, off, none⟩) hb).trans hc0
        have hck := (hbw.cell (p := ⟨b, off + k, none⟩) hb).trans hck
        by_cases h1 : k = 1
        · subst h1
          obtain ⟨l1, l2⟩ := H9.out (by omega)
          generalize xs.getD 1 0 = x at *
          generalize numK xs 1 = n at *
          go_wp2_with fail
          refine (second_any x0 _ f4 f5).mono ?_
          rintro e w' ⟨rfl, rfl⟩
          generalize lo2 x0 = lo at *
          generalize hi2 x0 = hi at *
          go_wp2_with fail
          refine (tail_yes x _ x1 x2).mono ?_
          rintro e w' ⟨rfl, rfl⟩
          go_wp2
          go_roundw
          case rel => exact ⟨2, by omega, by omega, by go_num, by rw [HS.out], hbw⟩
          case measure => simp [intOf]; omega
        · have h1' : ((k : Int) == 1) = false := by simp; omega
          generalize xs.getD k 0 = x at *
          generalize numK xs k = n at *
          go_wp2_with fail
          refine (second_any x0 _ f4 f5).mono ?_
          rintro e w' ⟨rfl, rfl⟩
          generalize lo2 x0 = lo at *
          generalize hi2 x0 = hi at *
          go_wp2_with fail
          refine (tail_yes x _ x1 x2).mono ?_
          rintro e w' ⟨rfl, rfl⟩
          go_wp2
          go_roundw
          case rel => exact ⟨k + 1, by omega, by omega, by go_num, by rw [HS.out], hbw⟩
          case measure => simp [intOf]; omega
      · have hkk : k = xs.length := by omega
        rw [← hkk] at H6
        have e6 := Lib.hid (H6.out)
        have hb0 : Below w.heap.size w wr := b1.trans (hbw.mono b1.size)
        generalize numK xs k = n at *
        obtain rfl : n = r := e6.out
        go_wp2
        go_ret
        exact ⟨rfl, hb0⟩

set_option maxRecDepth 100000 in
theorem lifted (os : Os) (started : os.Started) (H : Type) (enc : TypeId × Value → H) :
    ReturnsInHanded {} Try.checked os 4 .any (Rows.octetFormsSpec.pre6 enc Try.prog Try.f4 Rows.octetFormsRow.domain false) (Rows.octetFormsSpec.post enc Try.prog Try.f4 false true false false) := by
  refine law_frame_plain (C := Try.checked) (tb := 4) (by kernel_rfl) started (by kernel_rfl) Try.func4 (by kernel_rfl) (by kernel_rfl) Try.underlying4 rfl
    (by rw [Try.params4]; intro t ht; simp at ht; subst ht <;> exact ⟨by kernel_rfl, of_decide_eq_true (by kernel_rfl)⟩)
    (by rw [Try.params4]; intro ds hd; match ds, hd with | [_], _ => rfl)
    (ChangeSpec.witness6 (enc := enc) (C := Try.checked) false ⟨#[], #[.int .i32 0], []⟩ 8 (by kernel_rfl) (by kernel_rfl) (by kernel_rfl) (by kernel_rfl)) ?_
  intro W base args ds before hval hA
  rw [Try.params4] at hA hval
  obtain ⟨v0, vs0, d0, ds0, p0, q0, hargs, rfl, rfl, h0, r0⟩ := trodAll_cons hA
  obtain ⟨rfl, rfl, rfl⟩ := trodAll_nil r0
  obtain rfl : args = #[v0] := by cases args; simp_all
  obtain ⟨x0, rfl, rfl, rfl, wx0⟩ := open_int Try.underlying21 (hval 0 21 v0 rfl rfl) h0
  exact walk x0 wx0 W

theorem proved : Rows.OctetFormsSaid :=
  OpenClaim.holds_of_wide 4 Try.f4 rfl rfl rfl rfl rfl rfl rfl ⟨rfl, rfl, rfl, rfl, rfl⟩ rfl rfl rfl rfl rfl (by kernel_rfl) Try.func4 (by kernel_rfl)
    (of_decide_eq_true (by kernel_rfl)) (by unfold Func.isWrapper; first | (rw [if_pos (by decide +kernel)]; kernel_rfl) | (rw [if_neg (by decide +kernel)]; exact ⟨rfl, rfl⟩))
    (fun os started H enc _ => lifted os started H enc)
#print axioms proved

end Go.Proofs.Ytgdknabpdjohgaa.lawOctetForms
