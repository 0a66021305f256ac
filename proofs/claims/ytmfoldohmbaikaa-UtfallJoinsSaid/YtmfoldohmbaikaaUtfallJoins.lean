/- UtfallJoins (4.1) answers true at any row of numbers and any row of bytes, and turns nothing. No conditions. -/
import Derived.Test.YtmfoldohmbaikaaUallN
import Derived.Test.YtmfoldohmbaikaaUallW
import Derived.Test.YtmfoldohmbaikaaUallV
import Derived.Test.YtmfoldohmbaikaaRefPut
import Derived.Test.YtmfoldohmbaikaaClonR
import Derived.Test.YtmfoldohmbaikaaRows
import Derived.ProofKit
namespace Go.Proofs.Ytmfoldohmbaikaa.lawUtfallJoins
open Go.ChangeShapes Go.WideShapes Go.ChangeAt Go.RowKit
theorem in_bytes {xs : List Int} (h : ∀ x ∈ xs, (Lit.int .u8 x).wf = true) : ∀ i, i < xs.length → 0 ≤ xs.getD i 0 ∧ xs.getD i 0 ≤ 255 := fun i hi => by
  have := bounds_u8 (h (xs.getD i 0) (by simp [List.getD, List.getElem?_eq_getElem hi]))
  omega
theorem at_all {xs : List Int} {p : Int → Prop} (h : ∀ x ∈ xs, p x) : ∀ i, i < xs.length → p (xs.getD i 0) := fun i hi => h _ (by simp [List.getD, List.getElem?_eq_getElem hi])
theorem info_b : (Try.prog.info? 5).map (fun i => (i.zero, i.size, i.bytes)) = some (some (.int .u8 0), 1, 1) := by kernel_rfl
theorem find_bad (xs : List Int) : (∀ x ∈ xs, validB x = true) ∨ ∃ j, j < xs.length ∧ validB (xs.getD j 0) = false ∧ ∀ i, i < j → validB (xs.getD i 0) = true := by
  induction xs with
  | nil => exact .inl (by simp)
  | cons x xs ih =>
    cases hx : validB x with
    | false => exact .inr ⟨0, by simp, hx, fun i hi => absurd hi (Nat.not_lt_zero _)⟩
    | true =>
      rcases ih with h | ⟨j, hj, hb, hv⟩
      · exact .inl (by intro y hy; rcases List.mem_cons.1 hy with rfl | hy; exact hx; exact h y hy)
      · refine .inr ⟨j + 1, by simp; omega, hb, fun i hi => ?_⟩
        cases i with
        | zero => exact hx
        | succ i => exact hv i (by omega)
set_option maxRecDepth 100000 in
set_option maxHeartbeats 1000000 in
theorem walkB (w : World) (va vb : Value) (a b : List Int) (ha : Held .i32 w va a) (hb : Held .u8 w vb b) (hla : a.length ≤ 500) (hlb : b.length ≤ 500)
    (j : Nat) (hj : j < a.length) (hbad : validB (a.getD j 0) = false) (hv : ∀ i, i < j → validB (a.getD i 0) = true) : Calls Try.prog 6 #[va, vb] w (Yes w) := by
  have HV := Lib.hid hv
  have HB := Lib.hid hbad
  have HA := Lib.hid ha
  obtain ⟨ao, ka, rfl⟩ := ha.len
  obtain ⟨bo, kb, rfl⟩ := hb.len
  clear hv hbad ha hb
  go_enter Try.func6, Try.ntmps6
  go_wp2_with fail
  refine (works4_any _).mono ?_
  rintro e w1 ⟨rfl, b1⟩
  go_wp2_with fail
  refine (refput_bad _ a _ (HA.out.below b1) j hj HB.out HV.out (by omega)).mono ?_
  rintro e w2 ⟨rfl, b2⟩
  go_wp2
  go_ret
  exact ⟨(ret_eq (by first | rfl | (simp <;> omega))), b1.trans (b2.mono b1.size)⟩
set_option maxRecDepth 100000 in
set_option maxHeartbeats 1000000 in
theorem walkG (w : World) (va vb : Value) (a b : List Int) (ha : Held .i32 w va a) (hb : Held .u8 w vb b) (cb : CapOk vb) (hrb : ∀ i, i < b.length → 0 ≤ b.getD i 0 ∧ b.getD i 0 ≤ 255) (hla : a.length ≤ 500) (hlb : b.length ≤ 500)
    (hv : ∀ x ∈ a, validB x = true) : Calls Try.prog 6 #[va, vb] w (Yes w) := by
  obtain ⟨f1, f2, f3⟩ := forms_vals a hv
  have hfl := forms_len a
  have hfb := at_all (forms_byte a)
  have hjv := fun K h1 h2 => joins_vals b a K h1 h2 hv
  obtain ⟨f, hf⟩ : ∃ f, f = a.flatMap formL := ⟨_, rfl⟩
  have HFV := Lib.hid (at_all hv)
  have hput := fun w' h => refput_c va a w' h HFV.out (by omega)
  rw [← hf] at f1 f2 f3 hfl hfb hjv
  have HPUT := Lib.hid hput
  have HF1 := Lib.hid f1
  have HF2 := Lib.hid f2
  have HF3 := Lib.hid f3
  have HFB := Lib.hid hfb
  have HJV := Lib.hid hjv
  have HF := Lib.hid hf
  have HA := Lib.hid ha
  have HB := Lib.hid hb
  have HC := Lib.hid cb
  have HR := Lib.hid hrb
  obtain ⟨ao, ka, rfl⟩ := ha.len
  obtain ⟨bo, kb, rfl⟩ := hb.len
  clear hput f1 f2 f3 hfb hjv hf ha hb cb hrb hv
  go_enter Try.func6, Try.ntmps6
  go_wp2_with fail
  refine (works4_any _).mono ?_
  rintro e w1 ⟨rfl, b1⟩
  go_wp2_with fail
  refine (HPUT.out _ (HA.out.below b1)).mono ?_
  rintro e w2 ⟨v2, rfl, h2, c2, b2⟩
  rw [← HF.out] at h2
  have hb2 := b1.trans (b2.mono b1.size)
  have H2 := Lib.hid h2
  have C2 := Lib.hid c2
  clear b1 b2 h2 c2
  go_wp2_with fail
  refine (uvalid_any v2 f a.length HF1.out _ H2.out C2.out (by omega) HFB.out).mono ?_
  rintro e w3 ⟨rfl, b3⟩
  rw [HF3.out]
  have hb3 := hb2.trans (b3.mono hb2.size)
  have H3 := Lib.hid (H2.out.below b3)
  clear b3 hb2 H2
  go_wp2_with fail
  refine (urunes_any v2 f _ H3.out C2.out (by omega) HFB.out).mono ?_
  rintro e w4 ⟨k4, v4, rfl, hk4, ho4, b4⟩
  have hk4' : k4 = a.length := posN_one _ (hk4.trans HF1.out.symm)
  subst hk4'
  rw [HF2.out] at ho4
  have h4 := held_of_owns ho4
  have hb4 := hb3.trans (b4.mono hb3.size)
  have H4 := Lib.hid (H3.out.below b4)
  have hsm := same_any v4 _ a a w4 h4 (HA.out.below hb4) (by omega)
  rw [sameB_self] at hsm
  have HSM := Lib.hid hsm
  clear b4 hb3 H3 ho4 h4 hsm hk4
  go_wp2_with fail
  refine HSM.out.mono ?_
  rintro e w5 ⟨rfl, b5⟩
  have hb5 := hb4.trans (b5.mono hb4.size)
  have H5 := Lib.hid (H4.out.below b5)
  clear b5 hb4 H4 HSM
  go_wp2_with fail
  refine (utail_any _ b _ (HB.out.below hb5) HC.out (by omega) HR.out).mono ?_
  rintro e w6 ⟨K, rfl, hK, b6⟩
  have hb6 := hb5.trans (b6.mono hb5.size)
  have H6 := Lib.hid (H5.out.below b6)
  clear b6 hb5 H5
  obtain ⟨T, hT⟩ : ∃ T, T = tailG b K := ⟨_, rfl⟩
  rw [← hT]
  by_cases ht : 0 < T
  · clear hT hK
    go_wp2
    go_ret
    exact ⟨(ret_eq (by first | rfl | (simp <;> omega))), hb6⟩
  · obtain ⟨j1, j2⟩ := HJV.out K hK (by omega)
    have HJ1 := Lib.hid j1
    have HJ2 := Lib.hid j2
    have HK := Lib.hid hK
    clear j1 j2 hK hT
    have hbw := (HB.out.below hb6).below ((Below.refl _ _).alloc (Nat.le_refl _) (.cells #[] 5))
    go_wp2_with (at_builtin; refine wpList_append_held (w6.alloc (.cells #[] 5)) rfl (.tmp 42) (.tmp 43) 22 rfl w6.heap.size 5 (.int .u8 0) 1 Try.underlying22 info_b rfl .u8 _ 0 [] rfl (own_newK w6 5 .u8 _ (Nat.le_refl _)) _ b rfl hbw (by omega) (by omega) (by simp) ?_)
    intro v7 w7 ho7 b7
    have bw7 : Below w6.heap.size w6 w7 := ((Below.refl _ _).alloc (Nat.le_refl _) _).trans b7
    have hf7 := H6.out.below bw7
    clear hbw b7
    go_wp2_with (at_builtin; refine wpList_append_held w7 rfl (.tmp 44) (.tmp 45) 22 rfl w6.heap.size 5 (.int .u8 0) 1 Try.underlying22 info_b rfl .u8 _ b.length b rfl ho7 v2 f rfl hf7 (by omega) (by omega) bw7.size ?_)
    intro v8 w8 ho8 b8
    have bw8 := bw7.trans b8
    have h8 : Held .u8 w8 v8 (b ++ f) := held_of_owns (n := b.length + f.length) (by rw [List.map_append]; exact ho8)
    have c8 := own_cap ho8
    have hb8 := hb6.trans (bw8.mono hb6.size)
    have H8 := Lib.hid h8
    have C8 := Lib.hid c8
    clear ho7 bw7 hf7 b8 ho8 bw8 h8 c8 hb6 H6 C2
    obtain ⟨W, hW⟩ : ∃ W, W = w8.alloc (.cells #[] 21) := ⟨_, rfl⟩
    have hoW : W.ownsRow w8.heap.size 21 1 (.slice (some ⟨w8.heap.size, 0, none⟩) 0 0) 0 (([] : List Int).map (Value.int .i32)) := by rw [hW]; exact own_newK w8 21 .i32 _ (Nat.le_refl _)
    have hbW : Below w8.heap.size w8 W := by rw [hW]; exact (Below.refl _ _).alloc (Nat.le_refl _) _
    have HW := Lib.hid hW
    clear hW
    go_wp2_with fail
    rw [← HW.out]
    refine (urunes_any _ b W ((HB.out.below hb8).below hbW) HC.out (by omega) HR.out).mono ?_
    rintro e w9 ⟨k9, v9, rfl, hk9, ho9, b9⟩
    have hk9' : k9 = K := posN_one _ (hk9.trans HK.out.symm)
    subst hk9'
    have h9 := held_of_owns ho9
    have hl9 : (valsN b k9).length ≤ b.length := by
      have h1 : (valsN b k9).length = k9 := by simp [valsN, partsN_len]
      have := posN_ge b k9
      have := HK.out
      omega
    have hoW9 := ownsRow_below hoW b9
    have hb9 := hbW.trans (b9.mono hbW.size)
    clear hoW hbW b9 ho9 hk9 HW
    go_wp2_with (at_builtin; refine wpList_append_held w9 rfl (.tmp 47) (.tmp 49) 29 rfl w8.heap.size 21 (.int .i32 0) 4 Try.underlying29 Try.info_r rfl .i32 _ 0 [] rfl hoW9 v9 (valsN b k9) rfl h9 (by omega) (by omega) hb9.size ?_)
    intro v10 w10 ho10 b10
    have hb10 := hb9.trans b10
    have ha10 := HA.out.below (hb8.trans (hb10.mono hb8.size))
    clear h9 hoW9 b10 hb9
    go_wp2_with (at_builtin; refine wpList_append_held w10 rfl (.tmp 50) (.tmp 51) 29 rfl w8.heap.size 21 (.int .i32 0) 4 Try.underlying29 Try.info_r rfl .i32 _ (valsN b k9).length (valsN b k9) rfl ho10 _ a rfl ha10 (by omega) (by omega) hb10.size ?_)
    intro v11 w11 ho11 b11
    have h11 : Held .i32 w11 v11 (valsN b k9 ++ a) := held_of_owns (n := (valsN b k9).length + a.length) (by rw [List.map_append]; exact ho11)
    have hb11 := hb10.trans b11
    have hbb := hb8.trans (hb11.mono hb8.size)
    have H11 := Lib.hid h11
    have HBF := Lib.hid (H8.out.below hb11)
    have HRB : Go.RowKit.Hid (∀ i, i < (b ++ f).length → 0 ≤ (b ++ f).getD i 0 ∧ (b ++ f).getD i 0 ≤ 255) := by
      intro i hi
      rcases Nat.lt_or_ge i b.length with h | h
      · have := HR.out i h
        simpa [List.getD, List.getElem?_append_left h] using this
      · have hi' : i - b.length < f.length := by simp at hi; omega
        have := HFB.out (i - b.length) hi'
        simpa [List.getD, List.getElem?_append_right h] using this
    clear ho10 ha10 b11 h11 hb10 hb11 ho11 H8 hb8
    go_wp2_with fail
    refine (urunes_any v8 (b ++ f) _ HBF.out C8.out (by simp; omega) HRB.out).mono ?_
    rintro e w12 ⟨k12, v12, rfl, hk12, ho12, b12⟩
    have hk12' : k12 = k9 + a.length := posN_one _ (hk12.trans HJ1.out.symm)
    subst hk12'
    rw [HJ2.out] at ho12
    have h12 := held_of_owns ho12
    have hb12 := hbb.trans (b12.mono hbb.size)
    have hs2 := same_any v12 v11 (valsN b k9 ++ a) (valsN b k9 ++ a) w12 h12 (H11.out.below b12) (by simp; omega)
    rw [sameB_self] at hs2
    have HS2 := Lib.hid hs2
    clear hs2 h12 ho12 b12 hbb hk12 H11
    go_wp2_with fail
    refine HS2.out.mono ?_
    rintro e w13 ⟨rfl, b13⟩
    have hb13 := hb12.trans (b13.mono hb12.size)
    go_wp2
    go_ret
    exact ⟨(ret_eq (by first | rfl | (simp <;> omega))), hb13⟩
set_option maxRecDepth 100000 in
theorem walk {H : Type} {enc : TypeId × Value → H} (W : World) {base base' : Nat} (v : Value) {d : DataW H} {p : List MemPlace} (hv : Value.okWide Try.prog W .any base 29 v) (h : DataW.Trod enc Try.prog W 0 (fun _ => true) true 29 v d p)
    (u : Value) {d' : DataW H} {p' : List MemPlace} (hv' : Value.okWide Try.prog W .any base' 22 u) (h' : DataW.Trod enc Try.prog W 0 (fun _ => true) true 22 u d' p') : Calls Try.prog 6 #[v, u] W (Yes W) := by
  obtain ⟨a, ha, _, _⟩ := heldc_arg Try.underlying29 Try.underlying21 (by kernel_rfl) hv h
  obtain ⟨b, hb, cb, hw⟩ := heldc_arg Try.underlying22 Try.underlying5 (by kernel_rfl) hv' h'
  rcases Nat.lt_or_ge 500 a.length with hl | hla
  · obtain ⟨ao, ka, rfl, _⟩ := id ha.view
    obtain ⟨bo, kb, rfl, _⟩ := id hb.view
    clear hv h hv' h' ha hb cb hw
    go_enter Try.func6, Try.ntmps6
    go_wp2_with fail
    refine (works4_any _).mono ?_
    rintro e w1 ⟨rfl, b1⟩
    go_wp2_with fail
    refine (works4_any _).mono ?_
    rintro e w2 ⟨rfl, b2⟩
    go_wp2
    go_ret
    exact ⟨(ret_eq (by first | rfl | (simp <;> omega))), b1.trans (b2.mono b1.size)⟩
  rcases Nat.lt_or_ge 500 b.length with hl | hlb
  · obtain ⟨ao, ka, rfl, _⟩ := id ha.view
    obtain ⟨bo, kb, rfl, _⟩ := id hb.view
    clear hv h hv' h' ha hb cb hw
    go_enter Try.func6, Try.ntmps6
    go_wp2_with fail
    refine (works4_any _).mono ?_
    rintro e w1 ⟨rfl, b1⟩
    go_wp2_with fail
    refine (works4_any _).mono ?_
    rintro e w2 ⟨rfl, b2⟩
    go_wp2
    go_ret
    exact ⟨(ret_eq (by first | rfl | (simp <;> omega))), b1.trans (b2.mono b1.size)⟩
  rcases find_bad a with hval | ⟨j, hj, hbad, hvl⟩
  · exact walkG W v u a b ha hb cb (in_bytes hw) hla hlb hval
  · exact walkB W v u a b ha hb hla hlb j hj hbad hvl

set_option maxRecDepth 100000 in
theorem lifted (os : Os) (started : os.Started) (H : Type) (enc : TypeId × Value → H) :
    ReturnsInHanded {} Try.checked os 6 .any (Rows.utfallJoinsSpec.pre6 enc Try.prog Try.f6 Rows.utfallJoinsRow.domain false) (Rows.utfallJoinsSpec.post enc Try.prog Try.f6 false true false false) := by
  refine law_frame_plain (C := Try.checked) (tb := 4) (by kernel_rfl) started (by kernel_rfl) Try.func6 (by kernel_rfl) (by kernel_rfl) Try.underlying4 rfl
    (by rw [Try.params6]; intro t ht; simp at ht; rcases ht with rfl | rfl <;> exact ⟨by kernel_rfl, of_decide_eq_true (by kernel_rfl)⟩)
    (by rw [Try.params6]; intro ds hd; match ds, hd with | [_, _], _ => rfl)
    (ChangeSpec.witness6 (enc := enc) (C := Try.checked) false ⟨#[], #[.slice none 0 0, .slice none 0 0], []⟩ 8 (by kernel_rfl) (by kernel_rfl) (by kernel_rfl) (by kernel_rfl)) ?_
  intro W base args ds before hval hA
  rw [Try.params6] at hA hval
  obtain ⟨v0, vs0, d0, ds0, p0, q0, hargs, rfl, rfl, h0, r0⟩ := trodAll_cons hA
  obtain ⟨v1, vs1, d1, ds1, p1, q1, rfl, rfl, rfl, h1, r1⟩ := trodAll_cons r0
  obtain ⟨rfl, rfl, rfl⟩ := trodAll_nil r1
  obtain rfl : args = #[v0, v1] := by cases args; simp_all

  exact walk W v0 (hval 0 29 v0 rfl rfl) h0 v1 (hval 1 22 v1 rfl rfl) h1

theorem proved : Rows.UtfallJoinsSaid :=
  OpenClaim.holds_of_wide 6 Try.f6 rfl rfl rfl rfl rfl rfl rfl ⟨rfl, rfl, rfl, rfl, rfl⟩ rfl rfl rfl rfl rfl (by kernel_rfl) Try.func6 (by kernel_rfl)
    (of_decide_eq_true (by kernel_rfl)) (by unfold Func.isWrapper; first | (rw [if_pos (by decide +kernel)]; kernel_rfl) | (rw [if_neg (by decide +kernel)]; exact ⟨rfl, rfl⟩))
    (fun os started H enc _ => lifted os started H enc)
#print axioms proved

end Go.Proofs.Ytmfoldohmbaikaa.lawUtfallJoins
