/- UtfallParts (4.1) answers true at every row of bytes, and turns nothing. No conditions. -/
import Derived.Test.YtgoeacmpphmnoaaUallQ
import Derived.Test.YtgoeacmpphmnoaaUallV
import Derived.Test.YtgoeacmpphmnoaaScalarR
import Derived.Test.YtgoeacmpphmnoaaRows
import Derived.ProofKit
namespace Go.Proofs.Ytgoeacmpphmnoaa.lawUtfallParts
open Go.ChangeShapes Go.WideShapes Go.ChangeAt Go.RowKit
theorem in_bytes {xs : List Int} (h : ∀ x ∈ xs, (Lit.int .u8 x).wf = true) : ∀ i, i < xs.length → 0 ≤ xs.getD i 0 ∧ xs.getD i 0 ≤ 255 := by
  intro i hi
  have := bounds_u8 (h (xs.getD i 0) (by simp [List.getD, List.getElem?_eq_getElem hi]))
  omega
set_option maxRecDepth 100000 in
set_option maxHeartbeats 2000000 in
theorem walkH (w : World) (v : Value) (xs : List Int) (hv : Held .u8 w v xs) (hcp : CapOk v) (hr : ∀ i, i < xs.length → 0 ≤ xs.getD i 0 ∧ xs.getD i 0 ≤ 255) : Calls Try.prog 3 #[v] w (Yes w) := by
  obtain ⟨ao, cap, rfl, _⟩ := id hv.view
  have HV := Lib.hid hv
  have HC := Lib.hid hcp
  have HR := Lib.hid hr
  clear hv hcp hr
  by_cases hl : 2000 < xs.length
  · go_enter Try.func3, Try.ntmps3
    go_wp2_with fail
    refine (works4_any _).mono ?_
    rintro e w1 ⟨rfl, b1⟩
    go_wp2_with fail
    refine (works4_any _).mono ?_
    rintro e w2 ⟨rfl, b2⟩
    go_wp2
    go_ret
    exact ⟨(ret_eq (by first | rfl | (simp <;> omega))), b1.trans (b2.mono b1.size)⟩
  · go_enter Try.func3, Try.ntmps3
    go_wp2_with fail
    refine (works4_any _).mono ?_
    rintro e w1 ⟨rfl, b1⟩
    go_wp2_with fail
    refine (all_any _ xs _ (HV.out.below b1) HC.out (by omega) HR.out).mono ?_
    rintro e w2 ⟨K, lv, rfl, hK, hown, b2⟩
    have hb2 := b1.trans (b2.mono b1.size)
    have hG := heldG_of_owns hown
    obtain ⟨lo, lc, rfl, _⟩ := id hG
    rw [partsN_len] at hG ⊢
    have hKl : K ≤ xs.length := by rw [← hK]; exact posN_ge xs K
    have HG := Lib.hid hG
    have HK := Lib.hid hK
    clear hown hG hK b1 b2
    go_wp2_with fail
    refine (rall_any _ xs _ (HV.out.below hb2) HC.out (by omega) HR.out).mono ?_
    rintro e w3 ⟨K3, lv, rfl, hK3, hown, b3⟩
    obtain rfl : K3 = K := posN_one xs (hK3.trans HK.out.symm)
    have hb3 := hb2.trans (b3.mono hb2.size)
    have hM := heldG_of_owns hown
    obtain ⟨mo, mc, rfl, _⟩ := id hM
    rw [partsN_len] at hM ⊢
    have HM := Lib.hid hM
    have HG3 := Lib.hid (heldG_below HG.out b3)
    clear hown hM b3 hK3 HG hb2
    go_wp2_with fail
    refine (urunes_any _ xs _ (HV.out.below hb3) HC.out (by omega) HR.out).mono ?_
    rintro e w4 ⟨K4, v4, rfl, hK4, hown4, b4⟩
    obtain rfl : K4 = K3 := posN_one xs (hK4.trans HK.out.symm)
    have hb4 := hb3.trans (b4.mono hb3.size)
    have h4 := held_of_owns hown4
    have hl4 : (valsN xs K4).length = K4 := by unfold valsN; rw [List.length_map, partsN_len]
    have HL4 := Lib.hid hl4
    obtain ⟨o4, c4, rfl⟩ := id h4.len
    rw [HL4.out] at h4 ⊢
    have H4 := Lib.hid h4
    clear hown4 h4 hK4 hl4
    go_wp2_with fail
    refine (rrunes4_any _ xs _ (HV.out.below hb4) HC.out (by omega) HR.out).mono ?_
    rintro e w5 ⟨K5, v5, rfl, hK5, hown5, b5⟩
    obtain rfl : K5 = K4 := posN_one xs (hK5.trans HK.out.symm)
    have hb5 := hb4.trans (b5.mono hb4.size)
    have h5 := held_of_owns hown5
    have hsm := same_any _ v5 (valsN xs K5) (valsN xs K5) w5 (H4.out.below b5) h5 (by rw [HL4.out]; omega)
    rw [sameB_self] at hsm
    have HSM := Lib.hid hsm
    clear hown5 h5 hK5 hsm hb4
    go_wp2_with fail
    refine HSM.out.mono ?_
    rintro e w6 ⟨rfl, b6⟩
    have hb6 := hb5.trans (b6.mono hb5.size)
    have hb36 := b4.trans ((b5.mono b4.size).trans (b6.mono (by have := b4.size; have := b5.size; omega)))
    have HG6 := Lib.hid (heldG_below HG3.out hb36)
    have HM6 := Lib.hid (heldG_below HM.out hb36)
    have q1 := got_neq
    have q2 := gotEq_self
    clear b4 b5 b6 hb36 HG3 HM HSM H4 hb5
    go_wp2
    go_loopw [5, 6] (fun bv i wr => ∃ k : Nat, k ≤ K5 ∧ i = .int .i64 k ∧ bv = .bool (anyBad xs k) ∧ Below w6.heap.size w6 wr) (fun _ i _ => K5 - (intOf i).toNat)
    case atStart => exact ⟨0, Nat.zero_le _, rfl, rfl, Below.refl _ _⟩
    case round =>
      obtain ⟨k, hk, rfl, rfl, hbw⟩ := hrel
      by_cases hlt : k < K5
      · have hsn := anyBad_snoc xs k
        obtain ⟨bl, offl, rfl, hbl, c0, c1, c2, c3, c4⟩ := heldG_at (heldG_below HG6.out hbw) k hlt
        obtain ⟨bm, offm, rfl, hbm, d0, d1, d2, d3, d4⟩ := heldG_at (heldG_below HM6.out hbw) k hlt
        obtain ⟨G, hG⟩ : ∃ G, G = partG xs (posN xs k) := ⟨_, rfl⟩
        rw [← hG] at hsn c0 c1 c2 c3 c4 d0 d1 d2 d3 d4
        obtain ⟨r, a, l, kn, bd⟩ := G
        simp only at hsn c0 c1 c2 c3 c4 d0 d1 d2 d3 d4
        obtain ⟨B, hB⟩ : ∃ B, B = anyBad xs k := ⟨_, rfl⟩
        rw [← hB] at hsn ⊢
        have HSN := Lib.hid hsn
        have q3 := gotEq_self r a l kn bd
        clear hG hsn hB
        go_wp2_with fail
        go_quiet (fail)
        cases B with
        | true =>
          go_wp2
          go_roundw
          case rel => exact ⟨k + 1, by omega, by go_num, by rw [HSN.out]; rfl, Below.drewN hbw _⟩
          case measure => simp [intOf] <;> omega
        | false =>
          go_wp2
          go_roundw
          case rel => exact ⟨k + 1, by omega, by go_num, by rw [HSN.out]; rfl, Below.drewN hbw _⟩
          case measure => simp [intOf] <;> omega
      · obtain rfl : k = K5 := by omega
        have hbr := hb6.trans (hbw.mono hb6.size)
        have hfa := (feed_all xs k HK.out).1
        clear q1 q2
        go_wp2_with fail
        refine (rfeed_any (0, 0, 0) [] _ _ xs _ Rel.none (Held.nil .u8 _) (HV.out.below hbr) HR.out (by omega)).mono ?_
        rintro e w7 ⟨vt, vh, H', rfl, ht, hh, hrl, b7, _⟩
        have hb7 := hbr.trans (b7.mono hbr.size)
        obtain ⟨ho, hcp2, rfl⟩ := hh.len
        obtain ⟨to, tc, rfl⟩ := ht.len
        have hln := (rel_len hrl).1.trans hfa
        have HLN := Lib.hid hln
        have HUV := Lib.hid (uvalid_any _ xs k HK.out w7 (HV.out.below hb7) HC.out (by omega) HR.out)
        clear ht hh hrl b7 hln hfa
        go_wp2_with fail
        refine HUV.out.mono ?_
        rintro e w8 ⟨rfl, b8⟩
        have hb8 := hb7.trans (b8.mono hb7.size)
        obtain ⟨B, hB⟩ : ∃ B, B = anyBad xs k := ⟨_, rfl⟩
        rw [← hB]
        clear hB HUV
        cases B with
        | true =>
          go_wp2_with fail
          refine (utail_any _ xs _ (HV.out.below hb8) HC.out (by omega) HR.out).mono ?_
          rintro e w9 ⟨K9, rfl, hK9, b9⟩
          obtain rfl : K9 = k := posN_one xs (hK9.trans HK.out.symm)
          rw [← HLN.out]
          go_wp2
          go_ret
          exact ⟨(ret_eq (by first | rfl | (simp <;> omega))), hb8.trans (b9.mono hb8.size)⟩
        | false =>
          go_wp2_with fail
          refine (utail_any _ xs _ (HV.out.below hb8) HC.out (by omega) HR.out).mono ?_
          rintro e w9 ⟨K9, rfl, hK9, b9⟩
          obtain rfl : K9 = k := posN_one xs (hK9.trans HK.out.symm)
          rw [← HLN.out]
          go_wp2
          go_ret
          exact ⟨(ret_eq (by first | rfl | (simp <;> omega))), hb8.trans (b9.mono hb8.size)⟩
set_option maxRecDepth 100000 in
theorem walk {H : Type} {enc : TypeId × Value → H} (W : World) {base : Nat} (v : Value) {d : DataW H} {p : List MemPlace} (hv : Value.okWide Try.prog W .any base 22 v) (h : DataW.Trod enc Try.prog W 0 (fun _ => true) true 22 v d p) : Calls Try.prog 3 #[v] W (Yes W) := by
  obtain ⟨xs, hh, hcp, hw⟩ := heldc_arg Try.underlying22 Try.underlying5 (by kernel_rfl) hv h
  exact walkH W v xs hh hcp (in_bytes hw)

set_option maxRecDepth 100000 in
theorem lifted (os : Os) (started : os.Started) (H : Type) (enc : TypeId × Value → H) :
    ReturnsInHanded {} Try.checked os 3 .any (Rows.utfallPartsSpec.pre6 enc Try.prog Try.f3 Rows.utfallPartsRow.domain false) (Rows.utfallPartsSpec.post enc Try.prog Try.f3 false true false false) := by
  refine law_frame_plain (C := Try.checked) (tb := 4) (by kernel_rfl) started (by kernel_rfl) Try.func3 (by kernel_rfl) (by kernel_rfl) Try.underlying4 rfl
    (by rw [Try.params3]; intro t ht; simp at ht; subst ht <;> exact ⟨by kernel_rfl, of_decide_eq_true (by kernel_rfl)⟩)
    (by rw [Try.params3]; intro ds hd; match ds, hd with | [_], _ => rfl)
    (ChangeSpec.witness6 (enc := enc) (C := Try.checked) false ⟨#[], #[.slice none 0 0], []⟩ 8 (by kernel_rfl) (by kernel_rfl) (by kernel_rfl) (by kernel_rfl)) ?_
  intro W base args ds before hval hA
  rw [Try.params3] at hA hval
  obtain ⟨v0, vs0, d0, ds0, p0, q0, hargs, rfl, rfl, h0, r0⟩ := trodAll_cons hA
  obtain ⟨rfl, rfl, rfl⟩ := trodAll_nil r0
  obtain rfl : args = #[v0] := by cases args; simp_all

  exact walk W v0 (hval 0 22 v0 rfl rfl) h0

theorem proved : Rows.UtfallPartsSaid :=
  OpenClaim.holds_of_wide 3 Try.f3 rfl rfl rfl rfl rfl rfl rfl ⟨rfl, rfl, rfl, rfl, rfl⟩ rfl rfl rfl rfl rfl (by kernel_rfl) Try.func3 (by kernel_rfl)
    (of_decide_eq_true (by kernel_rfl)) (by unfold Func.isWrapper; first | (rw [if_pos (by decide +kernel)]; kernel_rfl) | (rw [if_neg (by decide +kernel)]; exact ⟨rfl, rfl⟩))
    (fun os started H enc _ => lifted os started H enc)
#print axioms proved

end Go.Proofs.Ytgoeacmpphmnoaa.lawUtfallParts
