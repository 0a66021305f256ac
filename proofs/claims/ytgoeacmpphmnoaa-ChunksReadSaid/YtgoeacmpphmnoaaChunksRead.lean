/- ChunksRead (5.2) answers true at every row of bytes and every row of places, and turns nothing. No conditions. -/
import Derived.Test.YtgoeacmpphmnoaaChkW
import Derived.Test.YtgoeacmpphmnoaaUallV
import Derived.Test.YtgoeacmpphmnoaaFrame
import Derived.Test.YtgoeacmpphmnoaaRows
import Derived.ProofKit
namespace Go.Proofs.Ytgoeacmpphmnoaa.lawChunksRead
open Go.ChangeShapes Go.WideShapes Go.ChangeAt Go.RowKit
theorem in_bytes {xs : List Int} (h : ∀ x ∈ xs, (Lit.int .u8 x).wf = true) : ∀ i, i < xs.length → 0 ≤ xs.getD i 0 ∧ xs.getD i 0 ≤ 255 := by
  intro i hi
  have := bounds_u8 (h (xs.getD i 0) (by simp [List.getD, List.getElem?_eq_getElem hi]))
  omega
theorem mem_bytes {xs : List Int} (h : ∀ i, i < xs.length → 0 ≤ xs.getD i 0 ∧ xs.getD i 0 ≤ 255) : ∀ x ∈ xs, 0 ≤ x ∧ x ≤ 255 := by
  intro x hx
  obtain ⟨i, hi, e⟩ := List.getElem_of_mem hx
  have := h i hi
  simp only [List.getD, List.getElem?_eq_getElem hi, Option.getD_some, e] at this
  exact this
set_option maxRecDepth 100000 in
set_option maxHeartbeats 2000000 in
theorem walkH (w : World) (v u : Value) (b at_ : List Int) (hv : Held .u8 w v b) (hcp : CapOk v) (hu : Held .i64 w u at_) (hr : ∀ i, i < b.length → 0 ≤ b.getD i 0 ∧ b.getD i 0 ≤ 255) : Calls Try.prog 6 #[v, u] w (Yes w) := by
  obtain ⟨bo, bc, rfl, _⟩ := id hv.view
  obtain ⟨ao, ac, rfl, _⟩ := id hu.view
  have HV := Lib.hid hv
  have HC := Lib.hid hcp
  have HU := Lib.hid hu
  have HR := Lib.hid hr
  clear hv hcp hu hr
  by_cases hl : 1500 < b.length
  · go_enter Try.func6, Try.ntmps6
    go_wp2_with fail
    refine (works5_any _).mono ?_
    rintro e w1 ⟨rfl, b1⟩
    go_wp2_with fail
    refine (works5_any _).mono ?_
    rintro e w2 ⟨rfl, b2⟩
    go_wp2
    go_ret
    exact ⟨(ret_eq (by first | rfl | (simp <;> omega))), b1.trans (b2.mono b1.size)⟩
  by_cases hl2 : 200 < at_.length
  · go_enter Try.func6, Try.ntmps6
    go_wp2_with fail
    refine (works5_any _).mono ?_
    rintro e w1 ⟨rfl, b1⟩
    go_wp2_with fail
    refine (works5_any _).mono ?_
    rintro e w2 ⟨rfl, b2⟩
    go_wp2
    go_ret
    exact ⟨(ret_eq (by first | rfl | (simp <;> omega))), b1.trans (b2.mono b1.size)⟩
  have hfl := cut_flat b at_
  have hln := cutB_len b at_
  have hmb := mem_bytes HR.out
  obtain ⟨L, hL⟩ : ∃ L, L = cutB b at_ := ⟨_, rfl⟩
  rw [← hL] at hfl hln
  have hby : ∀ T ∈ L, ∀ x ∈ T, 0 ≤ x ∧ x ≤ 255 := fun T hT x hx => hmb x (by rw [← hfl]; exact List.mem_flatten.2 ⟨T, hT, hx⟩)
  have HFL := Lib.hid hfl
  have HBY := Lib.hid hby
  have HMB := Lib.hid hmb
  have HLE := Lib.hid hL
  have hl3 : L.length ≤ 1000000 := by omega
  clear hfl hby hmb hL hln
  go_enter Try.func6, Try.ntmps6
  go_wp2_with fail
  refine (works5_any _).mono ?_
  rintro e w1 ⟨rfl, b1⟩
  go_wp2_with fail
  refine (cut_any _ _ b at_ _ (HV.out.below b1) HC.out (HU.out.below b1) (by omega) (by omega)).mono ?_
  rintro e w2 ⟨v2, n2, rfl, hob, b2⟩
  rw [← HLE.out] at hob
  have hb2 := b1.trans (b2.mono b1.size)
  have hh := ownB_held hob
  obtain ⟨lo, lc, rfl⟩ := hh.len
  have HH := Lib.hid hh
  have HJ := Lib.hid (join_any _ L w2 hh hl3 (by rw [HFL.out]; omega))
  clear hob b1 b2 hh
  go_wp2_with fail
  refine HJ.out.mono ?_
  rintro e w3 ⟨v3, rfl, ho3, b3⟩
  rw [HFL.out] at ho3
  have hb3 := hb2.trans (b3.mono hb2.size)
  have h3 := held_of_owns ho3
  have HBS := Lib.hid (bytes_same v3 _ b w3 h3 (HV.out.below hb3))
  have HH3 := Lib.hid (HH.out.below b3)
  clear ho3 h3 b3 HJ HH hb2
  go_wp2_with fail
  refine HBS.out.mono ?_
  rintro e w4 ⟨rfl, rfl⟩
  have HRD := Lib.hid (cread_any _ L w3 HH3.out hl3 (by rw [HFL.out]; omega) HBY.out)
  rw [HFL.out] at HRD
  clear HBS
  go_wp2_with fail
  refine HRD.out.mono ?_
  rintro e w5 ⟨v5, rfl, h5, b5⟩
  have hb5 := hb3.trans (b5.mono hb3.size)
  have H5 := Lib.hid h5
  clear h5 b5 HRD HH3 hb3
  go_wp2_with fail
  refine (rrunes4_any _ b _ (HV.out.below hb5) HC.out (by omega) HR.out).mono ?_
  rintro e w6 ⟨K, v6, rfl, hK, ho6, b6⟩
  have hb6 := hb5.trans (b6.mono hb5.size)
  have htd : told b = valsN b K := (feed_all b K hK).2
  have hKl : K ≤ b.length := by rw [← hK]; exact posN_ge b K
  have hvl : (valsN b K).length = K := by unfold valsN; rw [List.length_map, partsN_len]
  have h6 := held_of_owns ho6
  rw [htd] at H5
  have hs1 := same_any v5 v6 (valsN b K) (valsN b K) w6 (H5.out.below b6) h6 (by omega)
  rw [sameB_self] at hs1
  have HS1 := Lib.hid hs1
  have HTD := Lib.hid htd
  have HK := Lib.hid hK
  have HVL := Lib.hid hvl
  clear htd h6 hs1 ho6 hb5 b6 H5 hvl hK
  go_wp2_with fail
  refine HS1.out.mono ?_
  rintro e w7 ⟨rfl, b7⟩
  have hb7 := hb6.trans (b7.mono hb6.size)
  clear b7 HS1 hb6
  have hb8 := hb7.alloc hb7.size (.cells [Value.slice bo b.length bc].toArray 22)
  have hrow : HeldB (w7.alloc (.cells [Value.slice bo b.length bc].toArray 22)) (.slice (some ⟨w7.heap.size, 0, none⟩) 1 1) [b] := by
    refine heldB_new w7 _ _ 1 1 rfl fun i hi => ?_
    obtain rfl : i = 0 := by omega
    exact ⟨_, rfl, HV.out.below hb8⟩
  have HRD := Lib.hid (cread_any _ [b] _ hrow (by simp) (by simp; omega) (by intro T hT x hx; simp at hT; subst hT; exact HMB.out x hx))
  rw [show [b].flatten = b by simp, HTD.out] at HRD
  have HB8 := Lib.hid hb8
  clear hrow hb7 hb8
  go_wp2_with fail
  refine HRD.out.mono ?_
  rintro e w9 ⟨v9, rfl, h9, b9⟩
  have hb9 := HB8.out.trans (b9.mono HB8.out.size)
  have H9 := Lib.hid h9
  clear h9 b9 HRD
  go_wp2_with fail
  refine (rrunes4_any _ b _ (HV.out.below hb9) HC.out (by omega) HR.out).mono ?_
  rintro e w10 ⟨K2, v10, rfl, hK2, ho10, b10⟩
  obtain rfl : K2 = K := posN_one b (hK2.trans HK.out.symm)
  have hb10 := hb9.trans (b10.mono hb9.size)
  have h10 := held_of_owns ho10
  have hs2 := same_any v9 v10 (valsN b K2) (valsN b K2) w10 (H9.out.below b10) h10 (by rw [HVL.out]; omega)
  rw [sameB_self] at hs2
  have HS2 := Lib.hid hs2
  clear h10 hs2 ho10 hb9 b10 H9 hK2
  go_wp2_with fail
  refine HS2.out.mono ?_
  rintro e w11 ⟨rfl, b11⟩
  have hb11 := hb10.trans (b11.mono hb10.size)
  go_wp2
  go_ret
  exact ⟨(ret_eq (by first | rfl | (simp <;> omega))), hb11⟩
set_option maxRecDepth 100000 in
theorem walk {H : Type} {enc : TypeId × Value → H} (W : World) {base : Nat} (v : Value) {d : DataW H} {p : List MemPlace} (hv : Value.okWide Try.prog W .any base 22 v) (h : DataW.Trod enc Try.prog W 0 (fun _ => true) true 22 v d p)
    (u : Value) (at_ : List Int) (hu : Held .i64 W u at_) (wu : ∀ n ∈ at_, (Lit.int .i64 n).wf = true) : Calls Try.prog 6 #[v, u] W (Yes W) := by
  obtain ⟨xs, hh, hcp, hw⟩ := heldc_arg Try.underlying22 Try.underlying5 (by kernel_rfl) hv h
  exact walkH W v u xs at_ hh hcp hu (in_bytes hw)

set_option maxRecDepth 100000 in
theorem lifted (os : Os) (started : os.Started) (H : Type) (enc : TypeId × Value → H) :
    ReturnsInHanded {} Try.checked os 6 .any (Rows.chunksReadSpec.pre6 enc Try.prog Try.f6 Rows.chunksReadRow.domain false) (Rows.chunksReadSpec.post enc Try.prog Try.f6 false true false false) := by
  refine law_frame_plain (C := Try.checked) (tb := 4) (by kernel_rfl) started (by kernel_rfl) Try.func6 (by kernel_rfl) (by kernel_rfl) Try.underlying4 rfl
    (by rw [Try.params6]; intro t ht; simp at ht; rcases ht with rfl | rfl <;> exact ⟨by kernel_rfl, of_decide_eq_true (by kernel_rfl)⟩)
    (by rw [Try.params6]; intro ds hd; match ds, hd with | [_, _], _ => rfl)
    (ChangeSpec.witness6 (enc := enc) (C := Try.checked) false ⟨#[], #[.slice none 0 0, .slice none 0 0], []⟩ 8 (by kernel_rfl) (by kernel_rfl) (by kernel_rfl) (by kernel_rfl)) ?_
  intro W base args ds before hval hA
  rw [Try.params6] at hA hval
  obtain ⟨v0, vs0, d0, ds0, p0, q0, hargs, rfl, rfl, h0, r0⟩ := trodAll_cons hA
  obtain ⟨v1, vs1, d1, ds1, p1, q1, rfl, rfl, rfl, h1, r1⟩ := trodAll_cons r0
  obtain ⟨rfl, rfl, rfl⟩ := trodAll_nil r1
  obtain rfl : args = #[v0, v1] := by cases args; simp_all
  obtain ⟨x1, hx1, wx1⟩ := held_arg Try.underlying43 Try.underlying3 (by kernel_rfl) (hval 1 43 v1 rfl rfl) h1
  exact walk W v0 (hval 0 22 v0 rfl rfl) h0 v1 x1 hx1 wx1

theorem proved : Rows.ChunksReadSaid :=
  OpenClaim.holds_of_wide 6 Try.f6 rfl rfl rfl rfl rfl rfl rfl ⟨rfl, rfl, rfl, rfl, rfl⟩ rfl rfl rfl rfl rfl (by kernel_rfl) Try.func6 (by kernel_rfl)
    (of_decide_eq_true (by kernel_rfl)) (by unfold Func.isWrapper; first | (rw [if_pos (by decide +kernel)]; kernel_rfl) | (rw [if_neg (by decide +kernel)]; exact ⟨rfl, rfl⟩))
    (fun os started H enc _ => lifted os started H enc)
#print axioms proved

end Go.Proofs.Ytgoeacmpphmnoaa.lawChunksRead
