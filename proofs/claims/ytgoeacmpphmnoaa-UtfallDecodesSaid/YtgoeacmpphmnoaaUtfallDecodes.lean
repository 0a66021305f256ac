/- UtfallDecodes (4.2) answers true at every row of bytes, and turns nothing. No conditions. -/
import Derived.Test.YtgoeacmpphmnoaaUallQ
import Derived.Test.YtgoeacmpphmnoaaUallV
import Derived.Test.YtgoeacmpphmnoaaRefPut
import Derived.Test.YtgoeacmpphmnoaaRows
import Derived.ProofKit
import Derived.Deep.Cut
namespace Go.Proofs.Ytgoeacmpphmnoaa.lawUtfallDecodes
open Go.ChangeShapes Go.WideShapes Go.ChangeAt Go.RowKit
theorem in_bytes {xs : List Int} (h : ∀ x ∈ xs, (Lit.int .u8 x).wf = true) : ∀ i, i < xs.length → 0 ≤ xs.getD i 0 ∧ xs.getD i 0 ≤ 255 := by
  intro i hi
  have := bounds_u8 (h (xs.getD i 0) (by simp [List.getD, List.getElem?_eq_getElem hi]))
  omega
theorem pt_mono {xs : List Int} : ∀ (n q c : Nat) (s : St), Pt xs q c s → q + n = xs.length → ∃ c' s', Pt xs xs.length c' s' ∧ c ≤ c'
  | 0, q, c, s, h, e => ⟨c, s, by rw [← e]; exact h, Nat.le_refl _⟩
  | n + 1, q, c, s, h, e => by
    obtain ⟨c', h1, h2, _⟩ := pt_step h (by omega)
    obtain ⟨c2, s2, h3, h4⟩ := pt_mono n (q + 1) c' _ h1 (by omega)
    exact ⟨c2, s2, h3, by omega⟩
theorem vals_len (xs : List Int) (k : Nat) : (valsN xs k).length = k := by unfold valsN; rw [List.length_map, partsN_len]
theorem told_at {xs : List Int} {c c' : Nat} {T : List Int} (h : valsN xs c' = valsN xs c ++ T) (j : Nat) (hj : j < T.length) : c + j < c' ∧ T.getD j 0 = (partG xs (posN xs (c + j))).1 := by
  have hl := congrArg List.length h
  rw [List.length_append, vals_len, vals_len] at hl
  refine ⟨by omega, ?_⟩
  have h1 : (valsN xs c')[c + j]? = some (partG xs (posN xs (c + j))).1 := by unfold valsN; rw [List.getElem?_map, partsN_at xs c' (c + j) (by omega)]; rfl
  rw [h, List.getElem?_append_right (by rw [vals_len]; omega), vals_len, Nat.add_sub_cancel_left] at h1
  unfold List.getD
  rw [h1]; rfl
set_option maxRecDepth 100000 in
set_option maxHeartbeats 2000000 in
theorem walkH (w : World) (v : Value) (xs : List Int) (hv : Held .u8 w v xs) (hcp : CapOk v) (hr : ∀ i, i < xs.length → 0 ≤ xs.getD i 0 ∧ xs.getD i 0 ≤ 255) : Calls Try.prog 4 #[v] w (Yes w) := by
  obtain ⟨ao, cap, rfl, hc⟩ := id hv.view
  have HV := Lib.hid hv
  have HC := Lib.hid hcp
  have HR := Lib.hid hr
  have HCC := Lib.hid hc
  clear hv hcp hr hc
  by_cases hl : 1000 < xs.length
  · go_enter Try.func4, Try.ntmps4
    go_wp2_with fail
    refine (works4_any _).mono ?_
    rintro e w1 ⟨rfl, b1⟩
    go_wp2_with fail
    refine (works4_any _).mono ?_
    rintro e w2 ⟨rfl, b2⟩
    go_wp2
    go_ret
    exact ⟨(ret_eq (by first | rfl | (simp <;> omega))), b1.trans (b2.mono b1.size)⟩
  · go_enter Try.func4, Try.ntmps4
    go_wp2_with fail
    refine (works4_any _).mono ?_
    rintro e w1 ⟨rfl, b1⟩
    go_wp2_with fail
    refine (all_any _ xs _ (HV.out.below b1) HC.out (by omega) HR.out).mono ?_
    rintro e w2 ⟨K, lv, rfl, hK, hown, b2⟩
    have hb2 := b1.trans (b2.mono b1.size)
    have hG := heldG_of_owns hown
    have hlc := own_cap hown
    obtain ⟨lo, lc, rfl, _⟩ := id hG
    rw [partsN_len] at hG hlc ⊢
    have hlc2 : K ≤ lc := hlc _ _ _ rfl
    have hKl : K ≤ xs.length := by rw [← hK]; exact posN_ge xs K
    have HG := Lib.hid hG
    have HK := Lib.hid hK
    clear hown hG hK b1 b2 hlc
    go_wp2_with fail
    refine (utail_any _ xs _ (HV.out.below hb2) HC.out (by omega) HR.out).mono ?_
    rintro e w3 ⟨K9, rfl, hK9, b3⟩
    obtain rfl : K9 = K := posN_one xs (hK9.trans HK.out.symm)
    have hb3 := hb2.trans (b3.mono hb2.size)
    have HG3 := Lib.hid (heldG_below HG.out b3)
    obtain ⟨C, hC1, _⟩ := pt_all xs xs.length (Nat.le_refl _)
    rw [List.take_length] at hC1
    obtain ⟨hT, e2⟩ := pt_end hC1 K9 HK.out
    have HMON := Lib.hid (show ∀ q c s, Pt xs q c s → q ≤ xs.length → c ≤ C from fun q c s h hq => by
      obtain ⟨c', s', h1, h2⟩ := pt_mono (xs.length - q) q c s h (by omega)
      obtain ⟨f1, f2⟩ := pt_end h1 K9 HK.out
      omega)
    rw [hT] at e2
    have HT := Lib.hid hT
    have HC1 := Lib.hid hC1
    obtain ⟨t, ht⟩ : ∃ t, t = tailG xs K9 := ⟨_, rfl⟩
    have HTE := Lib.hid ht
    rw [← ht] at e2 HT ⊢
    clear HG b3 hK9 hC1 hT ht
    have HCK := Lib.hid (show C ≤ K9 by omega)
    have hgd := Has.new w3 [.int .u8 0, .int .i32 0, .int .i64 0] 40
    have hbd := (Below.refl w3.heap.size w3).alloc (Nat.le_refl _) (.cells [Value.int .u8 0, .int .i32 0, .int .i64 0].toArray 40)
    have HGD := Lib.hid hgd
    have HBD := Lib.hid hbd
    clear hgd hbd
    have htt : (t = 0 ∧ C = K9 ∧ decide (0 < t) = false) ∨ (0 < t ∧ K9 = C + 1 ∧ decide (0 < t) = true) := by
      rcases e2 with ⟨h1, h2⟩ | ⟨h1, h2, _⟩
      · exact .inl ⟨h1, h2, decide_eq_false (by omega)⟩
      · exact .inr ⟨h1, h2, decide_eq_true h1⟩
    clear e2
    have hup : ∀ X : Nat, X = C → True := fun _ _ => trivial
    clear hup
    have HCK2 := Lib.hid htt
    obtain ⟨K, hKK⟩ : ∃ K, K = K9 := ⟨_, rfl⟩
    rw [← hKK] at HG3 HK HCK HCK2 HTE
    rcases htt with ⟨t0, hCK, dt⟩ | ⟨t0, hCK, dt⟩
    case' inl =>
      clear t0
      rw [← hCK] at hlc2 hKl ⊢
      clear hCK hKK
      go_upto_region 7 with (fail)
    case' inr =>
      subst hCK
      have q1 : ¬ ((lc : Int) < (C : Int)) := by omega
      have q2 : ¬ (lc < C) := by omega
      have q4 : (0 : Int) ≤ (C : Int) := by omega
      have q5 : (C : Int) ≤ (lc : Int) := by omega
      clear hKK t0
      go_upto_region 7 with (fail)
    all_goals
      have hCl : C ≤ 1000 := by omega
      clear dt
      go_wp2
      go_loopw [6, 7] (fun iv kv wr => ∃ k c : Nat, k ≤ xs.length ∧ iv = .int .i64 c ∧ kv = .int .i64 k ∧ Go.RowKit.Hid (Pt xs k c (feedSt (0, 0, 0) (xs.take k))) ∧ DecAt wr w3.heap.size (feedSt (0, 0, 0) (xs.take k)).1 (feedSt (0, 0, 0) (xs.take k)).2.1 (feedSt (0, 0, 0) (xs.take k)).2.2 ∧ Below w3.heap.size w3 wr) (fun _ kv _ => xs.length - (intOf kv).toNat)
      case atStart => exact ⟨0, 0, Nat.zero_le _, rfl, rfl, Lib.hid (pt_zero xs), HGD.out, HBD.out⟩
      case round =>
        obtain ⟨k, c, hk, rfl, rfl, HPT, hd, hbw⟩ := hrel
        obtain ⟨wo, hwo⟩ : ∃ wo, wo = wr := ⟨_, rfl⟩
        subst hwo
        by_cases hlt : k < xs.length
        · obtain ⟨b, off, rfl, hb, hcx⟩ := HCC.out k hlt
          have hcx := ((hb3.trans (hbw.mono hb3.size)).cell (p := ⟨b, off + k, none⟩) hb).trans hcx
          obtain ⟨x0, x1⟩ := HR.out k hlt
          obtain ⟨c', p1, p2, p3, p4⟩ := pt_step HPT.out hlt
          have hst := feedSt_take (0, 0, 0) xs k hlt
          rw [← hst] at p1
          obtain ⟨x, hx⟩ : ∃ x, x = xs.getD k 0 := ⟨_, rfl⟩
          rw [← hx] at hcx x0 x1 p3 hst
          have hle := HMON.out _ _ _ p1 (by omega)
          have hwf := wfS_feed (0, 0, 0) (xs.take k) wfS_zero (fun y hy => by
            obtain ⟨i, hi, e⟩ := List.getElem_of_mem hy
            have hi2 : i < k ∧ i < xs.length := by simp at hi; omega
            have := HR.out i hi2.2
            rw [List.getElem_take] at e
            simp only [List.getD, List.getElem?_eq_getElem hi2.2, Option.getD_some, e] at this
            exact this)
          obtain ⟨s, hs⟩ : ∃ s, s = feedSt (0, 0, 0) (xs.take k) := ⟨_, rfl⟩
          rw [← hs] at p3 hst hwf hd
          have hTl : (stepTo s x).length ≤ 2 := tellT_len _ _ _ _
          obtain ⟨T, hT⟩ : ∃ T, T = stepTo s x := ⟨_, rfl⟩
          rw [← hT] at p3 hTl
          have hlen := congrArg List.length p3
          rw [List.length_append, vals_len, vals_len] at hlen
          have HTOLD := Lib.hid (told_at p3)
          have HKN := Lib.hid p4
          have HP1 := Lib.hid p1
          have HST := Lib.hid hst
          have HWF := Lib.hid hwf
          have HTT := Lib.hid hT
          clear hx p1 p3 p4 hst hwf hs hT HPT
          go_wp2_with fail
          refine (step_any w3.heap.size _ _ _ x _ hd HWF.out x0 x1).mono ?_
          rintro e wb ⟨v3, rfl, hh3, hd3, hb4⟩
          have hh4 : Held .i32 wb v3 T := by rw [HTT.out]; exact hh3
          have hd4 : DecAt wb w3.heap.size (feedSt (0, 0, 0) (xs.take (k + 1))).1 (feedSt (0, 0, 0) (xs.take (k + 1))).2.1 (feedSt (0, 0, 0) (xs.take (k + 1))).2.2 := by rw [HST.out]; exact hd3
          have hb5 : Below w3.heap.size w3 wb := hbw.trans (hb4.below hbw.size (Nat.le_refl _))
          obtain ⟨to, tc, rfl, htc⟩ := hh4.view
          have HTC := Lib.hid htc
          have HD4 := Lib.hid hd4
          clear hd hh3 hd3 hb4 hh4 hd4 htc hcx HST HTT HWF
          go_wp2
          go_loopw [6, 9] (fun iv jv wi => ∃ j m : Nat, j ≤ T.length ∧ m = c + j ∧ iv = .int .i64 m ∧ jv = .int .i64 j ∧ Below wb.heap.size wb wi) (fun _ jv _ => T.length - (intOf jv).toNat)
          case atStart => exact ⟨0, c, Nat.zero_le _, rfl, rfl, rfl, Below.refl _ _⟩
          case round =>
            obtain ⟨j, m, hj, hm, rfl, rfl, hbi⟩ := hrel
            by_cases hlt2 : j < T.length
            · obtain ⟨a1, a2⟩ := HTOLD.out j hlt2
              rw [← hm] at a1 a2
              obtain ⟨bt, offt, rfl, hbt, e0⟩ := HTC.out j hlt2
              have e0 := (hbi.cell (p := ⟨bt, offt + j, none⟩) hbt).trans e0
              obtain ⟨bl, offl, rfl, hbl, c0, c1, c2, c3, c4⟩ := heldG_at (heldG_below HG3.out (hb5.trans (hbi.mono hb5.size))) m (by have := HCK.out; omega)
              rw [show (partG xs (posN xs m)).2.2.2.1 = (k : Int) + 1 from HKN.out m (by omega) a1] at c3
              rw [← a2] at c0
              obtain ⟨r, hr⟩ : ∃ r, r = T.getD j 0 := ⟨_, rfl⟩
              rw [← hr] at c0 e0
              have d1 : decide ((C : Int) ≤ (m : Int)) = false := decide_eq_false (by omega)
              have d2 : decide (C ≤ m) = false := decide_eq_false (by omega)
              have HMJ := Lib.hid hm
              clear a2 hr c1 c2 c4 hm
              go_wp2_with fail
              go_quiet (fail)
              go_wp2
              go_roundw
              case rel => exact ⟨j + 1, m + 1, by omega, by have := HMJ.out; omega, by go_num, by go_num, Below.drewN hbi _⟩
              case measure => simp [intOf] <;> omega
            · obtain rfl : j = T.length := by omega
              obtain rfl : m = c' := by omega
              have hd5 := Has.below HD4.out hbi (Has.lt HD4.out)
              have hb6 := hb5.trans (hbi.mono hb5.size)
              go_wp2
              go_roundw
              case rel => exact ⟨k + 1, m, by omega, by go_num, by go_num, HP1, hd5, hb6⟩
              case measure => simp [intOf] <;> omega
        · obtain rfl : k = xs.length := by omega
          rw [List.take_length] at HPT hd
          obtain ⟨f1, f2⟩ := pt_end HPT.out K HK.out
          rw [← HTE.out] at f1
          have hcC : c = C := by have := HCK2.out; omega
          subst hcC
          have hbe := hb3.trans (hbw.mono hb3.size)
          have hg := hd.lt
          by_cases h0 : 0 < t
          · have d0 : (t == 0) = false := beq_eq_false_iff_ne.2 (by omega)
            have d9 : decide (0 < t) = true := decide_eq_true h0
            rw [f1] at hd
            clear f1 f2
            go_wp2_with fail
            refine (flush_some w3.heap.size _ _ _ wo hd (by omega)).mono ?_
            rintro e w5 ⟨v5, rfl, hv5, hd5, hbut⟩
            have hb7 := hbe.trans (hbut.below hbe.size hb3.size)
            obtain ⟨fo, fc, rfl⟩ := hv5.len
            clear hv5 hd5 hbut
            go_wp2
            go_ret
            exact ⟨(ret_eq (by first | rfl | (simp <;> omega))), hb7⟩
          · have ht0 : t = 0 := by have := HCK2.out; omega
            have d9 : decide (0 < t) = false := decide_eq_false h0
            rw [f1, ht0] at hd
            clear f1 f2 h0 ht0
            go_wp2_with fail
            refine (flush_none w3.heap.size _ _ _ hd).mono ?_
            rintro e w' ⟨rfl, rfl⟩
            go_wp2
            go_ret
            exact ⟨(ret_eq (by first | rfl | (simp <;> omega))), hbe⟩
set_option maxRecDepth 100000 in
theorem walk {H : Type} {enc : TypeId × Value → H} (W : World) {base : Nat} (v : Value) {d : DataW H} {p : List MemPlace} (hv : Value.okWide Try.prog W .any base 22 v) (h : DataW.Trod enc Try.prog W 0 (fun _ => true) true 22 v d p) : Calls Try.prog 4 #[v] W (Yes W) := by
  obtain ⟨xs, hh, hcp, hw⟩ := heldc_arg Try.underlying22 Try.underlying5 (by kernel_rfl) hv h
  exact walkH W v xs hh hcp (in_bytes hw)

set_option maxRecDepth 100000 in
theorem lifted (os : Os) (started : os.Started) (H : Type) (enc : TypeId × Value → H) :
    ReturnsInHanded {} Try.checked os 4 .any (Rows.utfallDecodesSpec.pre6 enc Try.prog Try.f4 Rows.utfallDecodesRow.domain false) (Rows.utfallDecodesSpec.post enc Try.prog Try.f4 false true false false) := by
  refine law_frame_plain (C := Try.checked) (tb := 4) (by kernel_rfl) started (by kernel_rfl) Try.func4 (by kernel_rfl) (by kernel_rfl) Try.underlying4 rfl
    (by rw [Try.params4]; intro t ht; simp at ht; subst ht <;> exact ⟨by kernel_rfl, of_decide_eq_true (by kernel_rfl)⟩)
    (by rw [Try.params4]; intro ds hd; match ds, hd with | [_], _ => rfl)
    (ChangeSpec.witness6 (enc := enc) (C := Try.checked) false ⟨#[], #[.slice none 0 0], []⟩ 8 (by kernel_rfl) (by kernel_rfl) (by kernel_rfl) (by kernel_rfl)) ?_
  intro W base args ds before hval hA
  rw [Try.params4] at hA hval
  obtain ⟨v0, vs0, d0, ds0, p0, q0, hargs, rfl, rfl, h0, r0⟩ := trodAll_cons hA
  obtain ⟨rfl, rfl, rfl⟩ := trodAll_nil r0
  obtain rfl : args = #[v0] := by cases args; simp_all

  exact walk W v0 (hval 0 22 v0 rfl rfl) h0

theorem proved : Rows.UtfallDecodesSaid :=
  OpenClaim.holds_of_wide 4 Try.f4 rfl rfl rfl rfl rfl rfl rfl ⟨rfl, rfl, rfl, rfl, rfl⟩ rfl rfl rfl rfl rfl (by kernel_rfl) Try.func4 (by kernel_rfl)
    (of_decide_eq_true (by kernel_rfl)) (by unfold Func.isWrapper; first | (rw [if_pos (by decide +kernel)]; kernel_rfl) | (rw [if_neg (by decide +kernel)]; exact ⟨rfl, rfl⟩))
    (fun os started H enc _ => lifted os started H enc)
#print axioms proved

end Go.Proofs.Ytgoeacmpphmnoaa.lawUtfallDecodes
