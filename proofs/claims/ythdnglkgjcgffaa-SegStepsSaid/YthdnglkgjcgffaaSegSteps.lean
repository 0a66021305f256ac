/- SegSteps (15.1) answers true at every row of properties, and turns nothing. No conditions. -/
import Derived.Test.YthdnglkgjcgffaaSegB
import Derived.Test.YthdnglkgjcgffaaFrame
import Derived.Test.YthdnglkgjcgffaaRows
import Derived.ProofKit
namespace Go.Proofs.Ythdnglkgjcgffaa.lawSegSteps
open Go.ChangeShapes Go.WideShapes Go.ChangeAt Go.RowKit
set_option maxRecDepth 100000 in
set_option maxHeartbeats 1000000 in
theorem walkH (w : World) (v : Value) (xs : List Pr) (hh : HeldP w v xs) : Calls Try.prog 3 #[v] w (Yes w) := by
  obtain ⟨ao, cap, rfl, _⟩ := id hh
  have HH := Lib.hid hh
  by_cases hl : 300 < xs.length
  · clear hh
    go_enter Try.func3, Try.ntmps3
    go_wp2_with fail
    refine (works15_any _).mono ?_
    rintro e w1 ⟨rfl, b1⟩
    go_wp2_with fail
    refine (works15_any _).mono ?_
    rintro e w2 ⟨rfl, b2⟩
    go_wp2
    go_ret
    exact ⟨(ret_eq (by first | rfl | (simp <;> omega))), b1.trans (b2.mono b1.size)⟩
  · obtain ⟨_, hc⟩ := hh.at
    have HC := Lib.hid hc
    clear hc hh
    go_enter Try.func3, Try.ntmps3
    go_wp2_with fail
    refine (works15_any _).mono ?_
    rintro e w1 ⟨rfl, b1⟩
    go_wp2
    go_loopw [4] (fun i wr => ∃ k : Nat, k ≤ xs.length ∧ i = .int .i64 k ∧ At wr w1.heap.size xs k ∧ Below w.heap.size w wr) (fun i _ => xs.length - (intOf i).toNat)
    case atStart => exact ⟨0, Nat.zero_le _, rfl, Has.new w1 _ _, b1.alloc b1.size _⟩
    case round =>
      obtain ⟨k, hk, rfl, hat, hbw⟩ := hrel
      have HAT := Lib.hid hat
      clear hat
      by_cases hlt : k < xs.length
      · obtain ⟨b, off, rfl, hb, h0, h1, h2, h3⟩ := HC.out k hlt
        have h0 := (hbw.cell (p := ⟨b, off + k * 4, none⟩) hb).trans h0
        have h1 := (hbw.cell (p := ⟨b, off + k * 4 + 1, none⟩) hb).trans h1
        have h2 := (hbw.cell (p := ⟨b, off + k * 4 + 2, none⟩) hb).trans h2
        have h3 := (hbw.cell (p := ⟨b, off + k * 4 + 3, none⟩) hb).trans h3
        have hst := step_at wr w1.heap.size xs k HAT.out
        obtain ⟨q, hq⟩ : ∃ q, q = xs.getD k Pr.none := ⟨_, rfl⟩
        rw [← hq] at h0 h1 h2 h3 hst
        have HST := Lib.hid hst
        clear hq hst
        go_wp2_with fail
        refine HST.out.mono ?_
        rintro e w2 ⟨rfl, hat2, hbut⟩
        have hb2 : Below w.heap.size w w2 := hbw.trans (hbut.below hbw.size b1.size)
        have HAT2 := Lib.hid hat2
        have hsz := HAT.out.lt
        clear hat2 h0 h1 h2 h3
        go_wp2_with fail
        refine (rjoins_any _ xs k _ (HH.out.below hb2) hlt (by omega)).mono ?_
        rintro e w3 ⟨rfl, b3⟩
        have hat3 : At w3 w1.heap.size xs (k + 1) := HAT2.out.below b3 HAT2.out.lt
        have hb3 := hb2.trans (b3.mono hb2.size)
        generalize jR xs k = j
        go_wp2
        go_roundw
        case rel => exact ⟨k + 1, by omega, by go_num, hat3, hb3⟩
        case measure => simp [intOf] <;> omega
      · go_wp2_with fail
        go_wp2_with fail
        refine (reset_nil _).mono ?_
        rintro e w' ⟨rfl, rfl⟩
        go_wp2_with fail
        refine (step_nil _ _ _ _ _).mono ?_
        rintro e w2 ⟨rfl, b2⟩
        have hb2 := hbw.trans (b2.mono hbw.size)
        go_wp2
        go_ret
        exact ⟨(ret_eq (by first | rfl | (simp <;> omega))), hb2⟩
set_option maxRecDepth 100000 in
theorem walk {H : Type} {enc : TypeId × Value → H} (W : World) {base : Nat} (v : Value) {d : DataW H} {p : List MemPlace} (hv : Value.okWide Try.prog W .any base 22 v) (h : DataW.Trod enc Try.prog W 0 (fun _ => true) true 22 v d p) : Calls Try.prog 3 #[v] W (Yes W) := by
  obtain ⟨xs, hh⟩ := open_props hv h
  exact walkH W v xs hh

set_option maxRecDepth 100000 in
theorem lifted (os : Os) (started : os.Started) (H : Type) (enc : TypeId × Value → H) :
    ReturnsInHanded {} Try.checked os 3 .any (Rows.segStepsSpec.pre6 enc Try.prog Try.f3 Rows.segStepsRow.domain false) (Rows.segStepsSpec.post enc Try.prog Try.f3 false true false false) := by
  refine law_frame_plain (C := Try.checked) (tb := 4) (by kernel_rfl) started (by kernel_rfl) Try.func3 (by kernel_rfl) (by kernel_rfl) Try.underlying4 rfl
    (by rw [Try.params3]; intro t ht; simp at ht; subst ht <;> exact ⟨by kernel_rfl, of_decide_eq_true (by kernel_rfl)⟩)
    (by rw [Try.params3]; intro ds hd; match ds, hd with | [_], _ => rfl)
    (ChangeSpec.witness6 (enc := enc) (C := Try.checked) false ⟨#[], #[.slice none 0 0], []⟩ 8 (by kernel_rfl) (by kernel_rfl) (by kernel_rfl) (by kernel_rfl)) ?_
  intro W base args ds before hval hA
  rw [Try.params3] at hA hval
  obtain ⟨v0, vs0, d0, ds0, p0, q0, hargs, rfl, rfl, h0, r0⟩ := trodAll_cons hA
  obtain ⟨rfl, rfl, rfl⟩ := trodAll_nil r0
  obtain rfl : args = #[v0] := by cases args; simp_all

  exact walk W v0 (hval 0 22 v0 rfl rfl) h0

theorem proved : Rows.SegStepsSaid :=
  OpenClaim.holds_of_wide 3 Try.f3 rfl rfl rfl rfl rfl rfl rfl ⟨rfl, rfl, rfl, rfl, rfl⟩ rfl rfl rfl rfl rfl (by kernel_rfl) Try.func3 (by kernel_rfl)
    (of_decide_eq_true (by kernel_rfl)) (by unfold Func.isWrapper; first | (rw [if_pos (by decide +kernel)]; kernel_rfl) | (rw [if_neg (by decide +kernel)]; exact ⟨rfl, rfl⟩))
    (fun os started H enc _ => lifted os started H enc)
#print axioms proved

end Go.Proofs.Ythdnglkgjcgffaa.lawSegSteps
