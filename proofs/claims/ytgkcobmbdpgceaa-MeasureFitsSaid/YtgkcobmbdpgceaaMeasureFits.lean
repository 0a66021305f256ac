/- MeasureFits (21.3) answers true at every text and width, and turns nothing. No condition. -/
import Derived.Test.YtgkcobmbdpgceaaMeaJ
import Derived.Test.YtgkcobmbdpgceaaMg7
import Derived.Test.YtgkcobmbdpgceaaMg2
import Derived.Test.YtgkcobmbdpgceaaMg1
import Derived.Test.YtgkcobmbdpgceaaRows
import Derived.ProofKit
namespace Go.Proofs.Ytgkcobmbdpgceaa.lawMeasureFits
open Go.ChangeShapes Go.WideShapes Go.ChangeAt Go.RowKit
set_option maxRecDepth 100000 in
set_option maxHeartbeats 3000000 in
theorem walkN (W : World) (v : Value) (xs : List Int) (Wd : Int) (hv : HeldE (intE .i32) (fun b => b < W.heap.size) W v xs) (hr : bounds32 xs) (hn : xs.length ≤ 1000) (hW : Wd ≤ 9223372036854775807) (hW0 : 0 ≤ Wd) : Calls Try.prog 5 #[v, .int .i64 Wd] W (Yes W) := by
  obtain ⟨ao, ca, rfl, hcap, hmx, hnone, _⟩ := id hv
  have hd : decide ((1000 : Int) < xs.length) = false := by rw [decide_eq_false_iff_not]; omega
  have hdn : decide (1000 < xs.length) = false := by rw [decide_eq_false_iff_not]; omega
  have hdw : decide (Wd < 0) = false := by rw [decide_eq_false_iff_not]; omega
  have H1 := Lib.hid (show ∀ w', Below W.heap.size W w' → Calls Try.prog 18 #[.slice ao xs.length ca, .int .i64 Wd] w' (GivesHead xs Wd w') from fun w' b => mhead_any _ xs Wd w' (hv.ints.below b) (by omega) hW)
  have HV := Lib.hid hv
  have HW0 := Lib.hid hW0
  have HMX := Lib.hid hmx
  obtain ⟨n, hnn⟩ : ∃ n, n = xs.length := ⟨_, rfl⟩
  have HN := Lib.hid hnn
  rw [← hnn] at H1 hd hdn hn hcap ⊢
  clear hv hr hnn hmx hW0
  rcases ao with _ | ⟨b, off, fld⟩
  · obtain ⟨hxs, hca⟩ := hnone rfl
    obtain rfl : n = 0 := by rw [HN.out, hxs]; rfl
    have HXS := Lib.hid hxs
    subst hca
    clear hnone hcap hxs hn
    go_enter Try.func5, Try.ntmps5
    go_wp2_with fail
    refine (works21_any _).mono ?_
    rintro e w1 ⟨rfl, b1⟩
    have B := Lib.hid b1
    clear b1
    have h1 := H1.out w1 B.out
    go_wp2_with fail
    refine h1.mono ?_
    clear h1 hd hdn
    rintro e w2 ⟨n1, u1, rfl, ho, b2⟩
    replace B := Lib.hid (B.out.trans (b2.mono B.out.size))
    clear b2
    obtain ⟨rfl, rfl⟩ : n1 = 0 ∧ u1 = 0 := by
      rcases ho with ⟨h, _⟩ | ⟨_, k, hk, rfl, rfl, _⟩
      · have := HW0.out; omega
      · rw [HXS.out] at hk ⊢
        have : k = 0 := by simpa [clS, spansB] using hk
        subst this
        exact ⟨by rw [endC_zero]; rfl, cumW_zero _⟩
    have hwu : decide (Wd < 0) = false := hdw
    have h2 := mcols_any (.slice none 0 0) [] w2 (Held.nil _ _) (by decide)
    rw [show colsC [] = 0 from by decide +kernel] at h2
    clear ho
    go_wp2_with fail
    refine h2.mono ?_
    clear h2
    rintro e w3 ⟨rfl, b3⟩
    replace B := Lib.hid (B.out.trans (b3.mono B.out.size))
    clear b3
    go_wp2
    go_ret
    exact ⟨(ret_eq (by first | rfl | (simp <;> omega))), B.out⟩
  · have HFLD := Lib.hid (show 0 < n → fld = none from fun h => by
      obtain ⟨b', o', e, _⟩ := HV.out.ints.spots 0 (by rw [← HN.out]; exact h)
      cases e
      rfl)
    clear hnone
    go_enter Try.func5, Try.ntmps5
    go_wp2_with fail
    refine (works21_any _).mono ?_
    rintro e w1 ⟨rfl, b1⟩
    have B := Lib.hid b1
    clear b1
    have h1 := H1.out w1 B.out
    go_wp2_with fail
    refine h1.mono ?_
    clear h1 hd hdn
    rintro e w2 ⟨n1, u1, rfl, ho, b2⟩
    replace B := Lib.hid (B.out.trans (b2.mono B.out.size))
    clear b2
    rcases ho with ⟨h, _⟩ | ⟨_, k, hk, rfl, rfl, hle, hgt⟩
    · have := HW0.out; omega
    have hen := endC_le xs k hk
    have hcb := cumW_bd xs k
    rw [← HN.out] at hen hcb
    have h2 := mcols_any (.slice (some ⟨b, off, fld⟩) (endC xs k) ca) (xs.take (endC xs k)) w2 (by
      have hp := (HV.out.below B.out).part 0 (endC xs k) (Nat.zero_le _) (by rw [← HN.out]; exact hen) (some ⟨b, off, fld⟩) ca (fun h => by cases h) (fun b' o' h _ => by cases h; simp) (fun _ _ => by simp) (by omega) HMX.out
      simp only [Nat.sub_zero, List.drop_zero] at hp
      exact hp.ints) (by rw [List.length_take]; omega)
    rw [cols_take xs k hk] at h2
    have HK := Lib.hid hk
    have HGT := Lib.hid hgt
    obtain ⟨ek, hek⟩ : ∃ ek, ek = endC xs k := ⟨_, rfl⟩
    have HEK := Lib.hid hek
    obtain ⟨u, hu⟩ : ∃ u, u = cumW xs k := ⟨_, rfl⟩
    have HU := Lib.hid hu
    rw [← hek] at h2 hen ⊢
    rw [← hu] at h2 hle hcb ⊢
    have hd1 : decide ((ek : Int) < 0) = false := by rw [decide_eq_false_iff_not]; omega
    have hd2 : decide ((n : Int) < ek) = false := by rw [decide_eq_false_iff_not]; omega
    have hd3 : decide (Wd < u) = false := by rw [decide_eq_false_iff_not]; omega
    have hd4 : (u != u) = false := by simp
    have hz1 : ek ≤ ca := by omega
    have hz2 : (ek : Int) ≤ ca := by omega
    clear hk hgt hek hu
    go_wp2_with fail
    refine h2.mono ?_
    clear h2
    rintro e w3 ⟨rfl, b3⟩
    replace B := Lib.hid (B.out.trans (b3.mono B.out.size))
    clear b3
    by_cases hkl : k = (clS xs).length
    · have heq : ((ek : Int) == (n : Int)) = true := by
        have : ek = n := by rw [HEK.out, HN.out, hkl, endC_last]
        rw [this]; simp
      clear hkl
      go_wp2
      go_ret
      exact ⟨(ret_eq (by first | rfl | (simp <;> omega))), B.out⟩
    · have hkl2 : k < (clS xs).length := by have := HK.out; omega
      have hek2 : ek < n := by
        have := endC_lt xs k _ hkl2 (Nat.le_refl _)
        rw [endC_last] at this
        rw [HEK.out, HN.out]
        exact this
      obtain rfl : fld = none := HFLD.out (by omega)
      have hne : ((ek : Int) == (n : Int)) = false := by rw [beq_eq_false_iff_ne]; omega
      have hw := HGT.out hkl2
      have hcs := cumW_succ xs k hkl2
      have hca := cluA_at xs k hkl2
      rw [← hca.1, ← HU.out] at hcs
      have hone := cluA_one xs k hkl2
      have h3 := gclus_any (.slice (some ⟨b, off + ek, none⟩) (n - ek) (ca - ek)) (xs.drop ek) w3 (by
        have hp := (HV.out.below B.out).part ek n (by omega) (by rw [← HN.out]; exact Nat.le_refl _) (some ⟨b, off + ek, none⟩) (ca - ek) (fun h => by cases h) (fun b' o' h _ => by cases h; simp [intE]) (fun _ _ => by simp) (by omega) (by have := HMX.out; omega)
        rw [List.take_of_length_le (by rw [List.length_drop, ← HN.out]; exact Nat.le_refl _)] at hp
        exact hp.ints) (by rw [List.length_drop]; have := HN.out; omega)
      rw [show cluA (xs.drop ek) = (cluA xs).drop k from by rw [HEK.out]; exact cluA_dropE xs k hkl2] at h3
      have HDL := Lib.hid (show ((cluA xs).drop k).length = (clS xs).length - k from by rw [List.length_drop, clA_len])
      have HD0 := Lib.hid (show ((cluA xs).drop k).getD 0 [] = (cluA xs).getD k [] from by simp [List.getD, List.getElem?_drop])
      obtain ⟨T, hT⟩ : ∃ T, T = (cluA xs).getD k [] := ⟨_, rfl⟩
      rw [← hT] at hcs hone HD0 hca
      obtain ⟨wd, hwd⟩ : ∃ wd, wd = wdC T := ⟨_, rfl⟩
      have hwb := wdC_bd T
      rw [← hwd] at hcs hone hwb
      have hwu : Wd - u < wd := by omega
      have HTL := Lib.hid (show T.length ≤ 1000000 from by have := hca.2.2.1; have := HN.out; omega)
      have HONE := Lib.hid hone
      obtain ⟨R, hR⟩ : ∃ R, R = (cluA xs).drop k := ⟨_, rfl⟩
      rw [← hR] at h3 HDL HD0
      have hrl : 0 < R.length := by rw [HDL.out]; omega
      have hrm : R.length ≤ 1000000 := by rw [HDL.out]; have := clS_len xs; have := HN.out; omega
      have hsub : IntKind.i64.wrap (Wd - u) = Wd - u := by rw [IntKind.wrap_i64]; have := HW0.out; omega
      have hz3 : ca - ek ≠ 0 := by omega
      have hz4 : ((ca - ek == 0) = false) := by rw [beq_eq_false_iff_ne]; exact hz3
      have hz5 : ca ≠ ek := by omega
      have hz6 : ek ≤ n := by omega
      have hz7 : (ek : Int) ≤ n := by omega
      have hz8 : n ≤ ca := hcap
      have hz9 : (n : Int) ≤ ca := by omega
      have hdg : decide (Wd - u < wd) = true := by rw [decide_eq_true_eq]; exact hwu
      clear hw hcs hca hone hT hwd hR hkl hkl2 hwb hd1 hd2 hd3 hd4
      go_wp2_with fail
      refine h3.mono ?_
      clear h3
      rintro e w4 ⟨v4, rfl, ho4, b4⟩
      replace B := Lib.hid (B.out.trans (b4.mono B.out.size))
      clear b4
      have hh := ho4.held (Z := fun b => w3.heap.size ≤ b) (fun b h _ => h)
      obtain ⟨a4, c4, rfl⟩ := hh.len
      have hc4 := hh.spots.2.1
      obtain ⟨g4, o4, e4, _, _, C4, q4, tv4, hC4, ht4⟩ := hh.spots.2.2 0 hrl
      subst e4 hC4
      have d4 : w4.cell? ⟨g4, o4, none⟩ = some tv4 := by have := q4 0 (by decide); simpa [show rowE.size = 1 from rfl] using this
      rw [show rowE.zero = ([] : List Int) from rfl, HD0.out] at ht4
      have h5 := mcols_any tv4 T w4 ht4.ints HTL.out
      rw [HONE.out] at h5
      obtain ⟨rl, hrle⟩ : ∃ rl, rl = R.length := ⟨_, rfl⟩
      rw [← hrle] at hrl hrm hc4 ⊢
      have hr0 : decide ((0 : Int) < rl) = true := by rw [decide_eq_true_eq]; omega
      have hc5 : 0 < c4 := by omega
      clear ho4 hh q4 ht4 hrle hwu
      go_wp2_with fail
      refine h5.mono ?_
      clear h5
      rintro e w5 ⟨rfl, b5⟩
      replace B := Lib.hid (B.out.trans (b5.mono B.out.size))
      clear b5
      go_wp2
      go_ret
      exact ⟨(ret_eq (by first | rfl | (simp <;> omega))), B.out⟩
set_option maxRecDepth 100000 in
theorem walk {H : Type} {enc : TypeId × Value → H} (W : World) (v : Value) {base : Nat} {d : DataW H} {p : List MemPlace} (hv : Value.okWide Try.prog W .any base 22 v) (h : DataW.Trod enc Try.prog W 0 (fun _ => true) true 22 v d p) (Wd : Int) (hw : (Lit.int .i64 Wd).wf = true) : Calls Try.prog 5 #[v, .int .i64 Wd] W (Yes W) := by
  obtain ⟨xs, hx, hr⟩ := runes_arg hv h
  by_cases hl : 1000 < xs.length
  · obtain ⟨ao, ca, rfl⟩ := hx.len
    clear hv h hx hr
    go_enter Try.func5, Try.ntmps5
    go_wp2_with fail
    refine (works21_any _).mono ?_
    rintro e w1 ⟨rfl, b1⟩
    go_wp2_with fail
    refine (works21_any _).mono ?_
    rintro e w2 ⟨rfl, b2⟩
    have B := b1.trans (b2.mono b1.size)
    go_wp2
    go_ret
    exact ⟨(ret_eq (by first | rfl | (simp <;> omega))), B⟩
  by_cases hw0 : Wd < 0
  · obtain ⟨ao, ca, rfl⟩ := hx.len
    have hd : decide ((1000 : Int) < xs.length) = false := by rw [decide_eq_false_iff_not]; omega
    have hdn : decide (1000 < xs.length) = false := by rw [decide_eq_false_iff_not]; omega
    have hdw : decide (Wd < 0) = true := by rw [decide_eq_true_eq]; exact hw0
    clear hv h hx hr hw hw0
    go_enter Try.func5, Try.ntmps5
    go_wp2_with fail
    refine (works21_any _).mono ?_
    rintro e w1 ⟨rfl, b1⟩
    go_wp2_with fail
    refine (works21_any _).mono ?_
    rintro e w2 ⟨rfl, b2⟩
    have B := b1.trans (b2.mono b1.size)
    go_wp2
    go_ret
    exact ⟨(ret_eq (by first | rfl | (simp <;> omega))), B⟩
  · exact walkN W v xs Wd hx hr (by omega) (by simp [Lit.wf] at hw; exact hw.2) (by omega)

set_option maxRecDepth 100000 in
theorem lifted (os : Os) (started : os.Started) (H : Type) (enc : TypeId × Value → H) :
    ReturnsInHanded {} Try.checked os 5 .any (Rows.measureFitsSpec.pre6 enc Try.prog Try.f5 Rows.measureFitsRow.domain false) (Rows.measureFitsSpec.post enc Try.prog Try.f5 false true false false) := by
  refine law_frame_plain (C := Try.checked) (tb := 4) (by kernel_rfl) started (by kernel_rfl) Try.func5 (by kernel_rfl) (by kernel_rfl) Try.underlying4 rfl
    (by rw [Try.params5]; intro t ht; simp at ht; rcases ht with rfl | rfl <;> exact ⟨by kernel_rfl, of_decide_eq_true (by kernel_rfl)⟩)
    (by rw [Try.params5]; intro ds hd; match ds, hd with | [_, _], _ => rfl)
    (ChangeSpec.witness6 (enc := enc) (C := Try.checked) false ⟨#[], #[.slice none 0 0, .int .i64 0], []⟩ 8 (by kernel_rfl) (by kernel_rfl) (by kernel_rfl) (by kernel_rfl)) ?_
  intro W base args ds before hval hA
  rw [Try.params5] at hA hval
  obtain ⟨v0, vs0, d0, ds0, p0, q0, hargs, rfl, rfl, h0, r0⟩ := trodAll_cons hA
  obtain ⟨v1, vs1, d1, ds1, p1, q1, rfl, rfl, rfl, h1, r1⟩ := trodAll_cons r0
  obtain ⟨rfl, rfl, rfl⟩ := trodAll_nil r1
  obtain rfl : args = #[v0, v1] := by cases args; simp_all
  obtain ⟨x1, rfl, rfl, rfl, wx1⟩ := open_int Try.underlying3 (hval 1 3 v1 rfl rfl) h1
  exact walk W v0 (hval 0 22 v0 rfl rfl) h0 x1 wx1

theorem proved : Rows.MeasureFitsSaid :=
  OpenClaim.holds_of_wide 5 Try.f5 rfl rfl rfl rfl rfl rfl rfl ⟨rfl, rfl, rfl, rfl, rfl⟩ rfl rfl rfl rfl rfl (by kernel_rfl) Try.func5 (by kernel_rfl)
    (of_decide_eq_true (by kernel_rfl)) (by unfold Func.isWrapper; first | (rw [if_pos (by decide +kernel)]; kernel_rfl) | (rw [if_neg (by decide +kernel)]; exact ⟨rfl, rfl⟩))
    (fun os started H enc _ => lifted os started H enc)
#print axioms proved

end Go.Proofs.Ytgkcobmbdpgceaa.lawMeasureFits
