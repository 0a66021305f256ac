/- GraphemeParts (16.1) answers true at every row of numbers, and turns nothing. No condition. -/
import Derived.Test.YtejiaejdpigiaaaMg7
import Derived.Test.YtejiaejdpigiaaaMg2
import Derived.Test.YtejiaejdpigiaaaMg1
import Derived.Test.YtejiaejdpigiaaaRows
import Derived.ProofKit
namespace Go.Proofs.Ytejiaejdpigiaaa.lawGraphemeParts
open Go.ChangeShapes Go.WideShapes Go.ChangeAt Go.RowKit
set_option maxRecDepth 100000 in
set_option maxHeartbeats 3000000 in
theorem walkN (W : World) (v : Value) (xs : List Int) (hv : HeldE (intE .i32) (fun b => b < W.heap.size) W v xs) (hr : bounds32 xs) (hn : xs.length ≤ 300) : Calls Try.prog 3 #[v] W (Yes W) := by
  have hh := hv.ints
  obtain ⟨ao, ca, rfl⟩ := hh.len
  obtain ⟨n, hnn⟩ : ∃ n, n = xs.length := ⟨_, rfl⟩
  have HN := Lib.hid hnn
  have HV := Lib.hid hv
  have HR := Lib.hid hr
  have HSL := Lib.hid (startB_len (jR (knownL xs)) xs.length)
  have HCL := Lib.hid (cluA_len xs)
  obtain ⟨ST, hST⟩ : ∃ ST, ST = startB (jR (knownL xs)) xs.length := ⟨_, rfl⟩
  have HST := Lib.hid hST
  rw [← hST] at HSL HCL
  rw [← hnn] at HV hn HSL ⊢
  have hd : decide ((300 : Int) < n) = false := by rw [decide_eq_false_iff_not]; omega
  have hdn : decide (300 < n) = false := by rw [decide_eq_false_iff_not]; omega
  have HQ := Lib.hid (show ∀ w', Below W.heap.size W w' → Held .i32 w' (.slice ao n ca) xs from fun w' b => by rw [hnn]; exact hh.below b)
  have HQE := Lib.hid (show ∀ w', Below W.heap.size W w' → HeldE (intE .i32) (fun b => b < W.heap.size) w' (.slice ao n ca) xs from fun w' b => by rw [hnn]; exact hv.below b)
  clear hv hh hr hnn hST
  go_enter Try.func3, Try.ntmps3
  go_wp2_with fail
  refine (works16_any _).mono ?_
  rintro e w1 ⟨rfl, b1⟩
  have B := Lib.hid b1
  clear b1
  have h2 := rstarts_any _ xs w1 (HQ.out w1 B.out) (by rw [← HN.out]; omega) HR.out
  rw [← HST.out] at h2
  go_wp2_with fail
  refine h2.mono ?_
  clear h2 hd hdn
  rintro e w2 ⟨v2, k2, rfl, ho2, b2⟩
  have ho2 := (ownE_ints (Z := fun _ => True) ho2).held (Z := fun _ => True) (fun _ _ _ => trivial)
  have H2 := Lib.hid ho2
  replace B := Lib.hid (B.out.trans (b2.mono B.out.size))
  clear b2
  have h3 := gstarts_any _ xs w2 (HQ.out w2 B.out) (by rw [← HN.out]; omega)
  rw [← HST.out] at h3
  go_wp2_with fail
  refine h3.mono ?_
  clear h3 ho2
  rintro e w3 ⟨v3, k3, rfl, ho3, b3⟩
  have ho3 := (ownE_ints (Z := fun _ => True) ho3).held (Z := fun _ => True) (fun _ _ _ => trivial)
  have H3 := Lib.hid ho3
  replace B := Lib.hid (B.out.trans (b3.mono B.out.size))
  replace H2 := Lib.hid (H2.out.below b3)
  clear b3
  have h4 := gclus_any _ xs w3 (HQ.out w3 B.out) (by rw [← HN.out]; omega)
  go_wp2_with fail
  refine h4.mono ?_
  clear h4 ho3
  rintro e w4 ⟨v4, rfl, ho4, b4⟩
  have H4 := Lib.hid (ho4.held (fun b h _ => h))
  replace B := Lib.hid (B.out.trans (b4.mono B.out.size))
  replace H2 := Lib.hid (H2.out.below b4)
  replace H3 := Lib.hid (H3.out.below b4)
  clear b4
  have h5 := rclus_any _ _ xs w4 (HQE.out w4 B.out) (by rw [← HN.out]; omega) HR.out
  go_wp2_with fail
  refine h5.mono ?_
  clear h5 ho4
  rintro e w5 ⟨v5, rfl, ho5, b5⟩
  have H5 := Lib.hid (ho5.held (fun b h _ => h))
  replace B := Lib.hid (B.out.trans (b5.mono B.out.size))
  replace H2 := Lib.hid (H2.out.below b5)
  replace H3 := Lib.hid (H3.out.below b5)
  replace H4 := Lib.hid (H4.out.below b5)
  clear b5
  clear ho5
  have h6 := fun w' b => gcount_any _ xs w' (HQ.out w' b) (by rw [← HN.out]; omega)
  rw [← HST.out] at h6
  have H6 := Lib.hid h6
  clear h6
  obtain ⟨m, hm⟩ : ∃ m, m = ST.length := ⟨_, rfl⟩
  have HM := Lib.hid hm
  have h2 := H2.out
  have h3 := H3.out
  have h4 := H4.out
  have h5 := H5.out
  have hmx2 := h2.max
  obtain ⟨a2, c2, rfl⟩ := h2.len
  obtain ⟨a3, c3, rfl⟩ := h3.len
  obtain ⟨a4, c4, rfl⟩ := h4.len
  obtain ⟨a5, c5, rfl⟩ := h5.len
  rw [HCL.out, ← hm] at H4 H5 ⊢
  rw [toI_len, ← hm] at H2 H3 ⊢
  rw [← hm] at H6
  try rw [← hm]
  have hmn : m ≤ 300 := by rw [hm]; have := HSL.out; omega
  clear h2 h3 h4 h5 hm hmx2
  have hb6 := H6.out w5 B.out
  go_wp2_with fail
  refine hb6.mono ?_
  clear hb6
  rintro e w6 ⟨rfl, b6⟩
  replace B := Lib.hid (B.out.trans (b6.mono B.out.size))
  replace H2 := Lib.hid (H2.out.below b6)
  replace H3 := Lib.hid (H3.out.below b6)
  replace H4 := Lib.hid (H4.out.below b6)
  replace H5 := Lib.hid (H5.out.below b6)
  clear b6
  have hmm : ((m : Int) != (m : Int)) = false := by simp
  go_wp2
  go_loopw [7] (fun i wr => ∃ k : Nat, k ≤ m ∧ i = .int .i64 k ∧ Below w6.heap.size w6 wr) (fun i _ => m - (intOf i).toNat)
  case atStart => exact ⟨0, Nat.zero_le _, rfl, Below.refl _ _⟩
  case round =>
    obtain ⟨k, hk, rfl, hbw⟩ := hrel
    obtain ⟨wk, hwk⟩ : ∃ wk, wk = wr := ⟨_, rfl⟩
    subst hwk
    have HB := Lib.hid hbw
    clear hbw hmm
    by_cases hlt : k < m
    · have h2 := (H2.out.below HB.out).ints.spots k (by rw [toI_len, ← HM.out]; exact hlt)
      have h3 := (H3.out.below HB.out).ints.spots k (by rw [toI_len, ← HM.out]; exact hlt)
      obtain ⟨g2, o2, e2, _, d2⟩ := h2
      obtain ⟨g3, o3, e3, _, d3⟩ := h3
      obtain ⟨_, hc4, h4⟩ := (H4.out.below HB.out).spots
      obtain ⟨_, hc5, h5⟩ := (H5.out.below HB.out).spots
      obtain ⟨g4, o4, e4, _, _, C4, q4, tv4, hC4, ht4⟩ := h4 k (by rw [HCL.out, ← HM.out]; exact hlt)
      obtain ⟨g5, o5, e5, _, _, C5, q5, tv5, hC5, ht5⟩ := h5 k (by rw [HCL.out, ← HM.out]; exact hlt)
      subst e2 e3 e4 e5 hC4 hC5
      have d4 : wk.cell? ⟨g4, o4 + k, none⟩ = some tv4 := by have := q4 0 (by decide); simpa [show rowE.size = 1 from rfl] using this
      have d5 : wk.cell? ⟨g5, o5 + k, none⟩ = some tv5 := by have := q5 0 (by decide); simpa [show rowE.size = 1 from rfl] using this
      have hlen4 : ((cluA xs).getD k rowE.zero).length ≤ 9223372036854775807 := ht4.max
      obtain ⟨T, hT⟩ : ∃ T, T = (cluA xs).getD k rowE.zero := ⟨_, rfl⟩
      rw [← hT] at ht4 ht5 hlen4
      obtain ⟨x, hx⟩ : ∃ x, x = (toI ST).getD k 0 := ⟨_, rfl⟩
      rw [← hx] at d2 d3
      obtain ⟨p4, r4, rfl⟩ := ht4.len
      obtain ⟨p5, r5, rfl⟩ := ht5.len
      have HT4 := Lib.hid ht4.ints
      have HT5 := Lib.hid ht5.ints
      obtain ⟨tl, htl⟩ : ∃ tl, tl = T.length := ⟨_, rfl⟩
      rw [← htl] at HT4 HT5 d4 d5
      have HQ2 := Lib.hid (fun u : Growth wk => same_any _ _ T T (ext wk u) (HT4.out.below u.ok) (HT5.out.below u.ok) hlen4)
      rw [sameB_self] at HQ2
      have hxx : (x != x) = false := by simp
      have d2 := ext_cell d2
      have d3 := ext_cell d3
      have d4 := ext_cell d4
      have d5 := ext_cell d5
      have hc4 : k < c4 := by omega
      have hc5 : k < c5 := by omega
      clear h4 h5 q4 q5 ht4 ht5 hT hx htl hlen4
      go_wp2
      refine wp_region_ext (by kernel_rfl) (by kernel_rfl) ?_
      repeat (go_big_quiet_step (((go_at_call 20; exact callx (HQ2.out _)))))
      refine wpQuiet_nil ?_
      intro _ hw'
      obtain ⟨u, hw''⟩ := hw'
      subst hw''
      have HE := Lib.hid (ext_below HB.out u)
      go_wp2
      go_roundw
      case rel => exact ⟨k + 1, by omega, by go_num, HE.out⟩
      case measure => simp [intOf]; omega
    · obtain rfl : k = m := by omega
      have HE := Lib.hid (B.out.trans (HB.out.mono B.out.size))
      go_wp2
      go_ret
      exact ⟨(ret_eq (by first | rfl | (simp <;> omega))), HE.out⟩
set_option maxRecDepth 100000 in
theorem walk {H : Type} {enc : TypeId × Value → H} (W : World) (v : Value) {base : Nat} {d : DataW H} {p : List MemPlace} (hv : Value.okWide Try.prog W .any base 22 v) (h : DataW.Trod enc Try.prog W 0 (fun _ => true) true 22 v d p) : Calls Try.prog 3 #[v] W (Yes W) := by
  obtain ⟨xs, hx, hr⟩ := runes_arg hv h
  by_cases hl : 300 < xs.length
  · obtain ⟨ao, ca, rfl⟩ := hx.len
    clear hv h hx hr
    go_enter Try.func3, Try.ntmps3
    go_wp2_with fail
    refine (works16_any _).mono ?_
    rintro e w1 ⟨rfl, b1⟩
    go_wp2_with fail
    refine (works16_any _).mono ?_
    rintro e w2 ⟨rfl, b2⟩
    have B := b1.trans (b2.mono b1.size)
    go_wp2
    go_ret
    exact ⟨(ret_eq (by first | rfl | (simp <;> omega))), B⟩
  · exact walkN W v xs hx hr (by omega)

set_option maxRecDepth 100000 in
theorem lifted (os : Os) (started : os.Started) (H : Type) (enc : TypeId × Value → H) :
    ReturnsInHanded {} Try.checked os 3 .any (Rows.graphemePartsSpec.pre6 enc Try.prog Try.f3 Rows.graphemePartsRow.domain false) (Rows.graphemePartsSpec.post enc Try.prog Try.f3 false true false false) := by
  refine law_frame_plain (C := Try.checked) (tb := 4) (by kernel_rfl) started (by kernel_rfl) Try.func3 (by kernel_rfl) (by kernel_rfl) Try.underlying4 rfl
    (by rw [Try.params3]; intro t ht; simp at ht; subst ht <;> exact ⟨by kernel_rfl, of_decide_eq_true (by kernel_rfl)⟩)
    (by rw [Try.params3]; intro ds hd; match ds, hd with | [_], _ => rfl)
    (ChangeSpec.witness6 (enc := enc) (C := Try.checked) false ⟨#[], #[.slice none 0 0], []⟩ 8 (by kernel_rfl) (by kernel_rfl) (by kernel_rfl) (by kernel_rfl)) ?_
  intro W base args ds before hval hA
  rw [Try.params3] at hA hval
  obtain ⟨v0, vs0, d0, ds0, p0, q0, hargs, rfl, rfl, h0, r0⟩ := trodAll_cons hA
  obtain ⟨rfl, rfl, rfl⟩ := trodAll_nil r0
  obtain rfl : args = #[v0] := by cases args; simp_all

  exact walk W v0 (hval 0 22 v0 rfl rfl) h0

theorem proved : Rows.GraphemePartsSaid :=
  OpenClaim.holds_of_wide 3 Try.f3 rfl rfl rfl rfl rfl rfl rfl ⟨rfl, rfl, rfl, rfl, rfl⟩ rfl rfl rfl rfl rfl (by kernel_rfl) Try.func3 (by kernel_rfl)
    (of_decide_eq_true (by kernel_rfl)) (by unfold Func.isWrapper; first | (rw [if_pos (by decide +kernel)]; kernel_rfl) | (rw [if_neg (by decide +kernel)]; exact ⟨rfl, rfl⟩))
    (fun os started H enc _ => lifted os started H enc)
#print axioms proved

end Go.Proofs.Ytejiaejdpigiaaa.lawGraphemeParts
