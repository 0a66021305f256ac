/- Texts put together: JusD, JusW. -/
import Derived.Test.YtkpmmkokfllafaaGreatJusC
import Derived.Test.YtkpmmkokfllafaaGreatMg2
import Derived.Test.YtkpmmkokfllafaaGreatMg1
/- justify.Fit (58). -/
namespace Go.Proofs.YtkpmmkokfllafaaGreat
open Go.RowKit Go.ChangeShapes Go.WideShapes
def fitC (W side : Int) (xs mk : List Int) : List Int :=
  if colsC xs ≤ wc W then padC (wc W) side xs else if wc W < colsC mk then padC (wc W) side (cutC (wc W) xs) else padC (wc W) side (cutC (wc W - colsC mk) xs ++ mk)
theorem cut_len (W : Int) (xs : List Int) : (cutC W xs).length ≤ xs.length := by unfold cutC; rw [List.length_take]; omega
theorem fit_len (W side : Int) (xs mk : List Int) : (fitC W side xs mk).length ≤ xs.length + mk.length + 1024 := by
  unfold fitC
  have h1 := lack_le (wc W) xs
  have h2 := lack_le (wc W) (cutC (wc W) xs)
  have h3 := lack_le (wc W) (cutC (wc W - colsC mk) xs ++ mk)
  have h4 := cut_len (wc W) xs
  have h5 := cut_len (wc W - colsC mk) xs
  split
  · rw [pad_len]; omega
  · split
    · rw [pad_len]; omega
    · rw [pad_len, List.length_append]; omega
set_option maxRecDepth 100000 in
set_option maxHeartbeats 2000000 in
theorem jfit_any (Z : Zone) (v u : Value) (xs mk : List Int) (W side : Int) (w : World) (hv : HeldE (intE .i32) Z w v xs) (hu : Held .i32 w u mk) (hn : xs.length ≤ 10000) (hm : mk.length ≤ 10000) : Calls Tryz.prog 14 #[v, .int .i64 W, .int .i64 side, u] w (CatOk w (fitC W side xs mk)) := by
  obtain ⟨ao, ca, rfl⟩ := hv.len
  obtain ⟨bo, cb, rfl⟩ := hu.len
  have HW := Lib.hid (jwidth_any W w)
  have hwd := wc_bd W
  have HCO := Lib.hid (mcols_any _ xs w hv.ints (by omega))
  have HV := Lib.hid hv
  have HU := Lib.hid hu
  have hcb := colsC_bd xs
  have hcm := colsC_bd mk
  have HDEF := Lib.hid (show fitC W side xs mk = if colsC xs ≤ wc W then padC (wc W) side xs else if wc W < colsC mk then padC (wc W) side (cutC (wc W) xs) else padC (wc W) side (cutC (wc W - colsC mk) xs ++ mk) from rfl)
  have HNB := Lib.hid (And.intro hn hm)
  obtain ⟨n, hnn⟩ : ∃ n, n = xs.length := ⟨_, rfl⟩
  have HN := Lib.hid hnn
  rw [← hnn] at HCO HV ⊢
  obtain ⟨m, hmm⟩ : ∃ m, m = mk.length := ⟨_, rfl⟩
  have HM := Lib.hid hmm
  rw [← hmm] at HU ⊢
  obtain ⟨Wd, hWd⟩ : ∃ Wd, Wd = wc W := ⟨_, rfl⟩
  rw [← hWd] at HW hwd HDEF
  obtain ⟨cc, hcc⟩ : ∃ cc, cc = colsC xs := ⟨_, rfl⟩
  rw [← hcc] at HCO HDEF hcb
  have HCM := Lib.hid (show ∀ w', Below w.heap.size w w' → Calls Tryz.prog 11 #[.slice bo m cb] w' (Gives w' (.int .i64 (colsC mk))) from fun w' h => mcols_any _ mk w' (HU.out.below h) (by omega))
  obtain ⟨cm, hcm9⟩ : ∃ cm, cm = colsC mk := ⟨_, rfl⟩
  rw [← hcm9] at HCM HDEF hcm
  obtain ⟨FIT, hFIT⟩ : ∃ FIT, FIT = fitC W side xs mk := ⟨_, rfl⟩
  rw [← hFIT] at HDEF ⊢
  have hsub : IntKind.i64.wrap (Wd - cm) = Wd - cm := by rw [IntKind.wrap_i64]; omega
  have HWD := Lib.hid hwd
  clear hv hu hn hm hnn hmm hWd hcc hcm9 hFIT hwd
  go_enter Tryz.func14, Tryz.ntmps14
  go_wp2_with fail
  refine HW.out.mono ?_
  rintro e w1 ⟨rfl, rfl⟩
  by_cases hle : cc ≤ Wd
  · have hg : decide (cc ≤ Wd) = true := by simpa using hle
    have HP := Lib.hid (show ∀ w', Below w1.heap.size w1 w' → Calls Tryz.prog 13 #[.slice ao n ca, .int .i64 Wd, .int .i64 side] w' (CatOk w' FIT) from fun w' h => by
      rw [HDEF.out, if_pos hle]
      exact jpad_any _ xs Wd side w' (HV.out.below h).ints (by have := HNB.out; omega))
    clear hle hcb hcm
    go_wp2_with fail
    refine HCO.out.mono ?_
    rintro e w2 ⟨rfl, b2⟩
    have h3 := HP.out w2 b2
    have HB2 := Lib.hid b2
    clear b2
    go_wp2_with fail
    refine h3.mono ?_
    clear h3
    rintro e w3 ⟨v3, rfl, ho, b3⟩
    have HO := Lib.hid (owns_mono ho HB2.out.size)
    have HB := Lib.hid (HB2.out.trans (b3.mono HB2.out.size))
    clear ho b3
    go_wp2
    go_ret
    exact ⟨_, (ret_eq (by first | rfl | (simp <;> omega))), HO.out, HB.out⟩
  · have hg : decide (cc ≤ Wd) = false := by simpa using hle
    rw [if_neg hle] at HDEF
    by_cases hlt : Wd < cm
    · have hg2 : decide (Wd - cm < 0) = true := by rw [decide_eq_true_eq]; omega
      rw [if_pos hlt] at HDEF
      clear hle hlt hcb hcm
      go_wp2_with fail
      refine HCO.out.mono ?_
      rintro e w2 ⟨rfl, b2⟩
      have h3 := HCM.out w2 b2
      have HB2 := Lib.hid b2
      clear b2
      go_wp2_with fail
      refine h3.mono ?_
      clear h3
      rintro e w3 ⟨rfl, b3⟩
      have HB3 := Lib.hid (HB2.out.trans (b3.mono HB2.out.size))
      clear b3
      have h4 := jcut_any Z (.slice ao n ca) xs Wd w3 (HV.out.below HB3.out) (by have := HNB.out; omega)
      go_wp2_with fail
      refine h4.mono ?_
      clear h4
      rintro e w4 ⟨v4, rfl, ho4, b4⟩
      have HB4 := Lib.hid (HB3.out.trans (b4.mono HB3.out.size))
      have h5 := jpad_any v4 (cutC Wd xs) Wd side w4 (held_of_owns ho4) (by have := cut_len Wd xs; have := HNB.out; omega)
      rw [← HDEF.out] at h5
      obtain ⟨a4, c4, rfl⟩ := (held_of_owns ho4).len
      obtain ⟨xl, hxl⟩ : ∃ xl, xl = (cutC Wd xs).length := ⟨_, rfl⟩
      rw [← hxl] at h5 ⊢
      clear ho4 b4 hxl
      go_wp2_with fail
      refine h5.mono ?_
      clear h5
      rintro e w5 ⟨v5, rfl, ho, b5⟩
      have HO := Lib.hid (owns_mono ho HB4.out.size)
      have HB := Lib.hid (HB4.out.trans (b5.mono HB4.out.size))
      clear ho b5
      go_wp2
      go_ret
      exact ⟨_, (ret_eq (by first | rfl | (simp <;> omega))), HO.out, HB.out⟩
    · have hg2 : decide (Wd - cm < 0) = false := by rw [decide_eq_false_iff_not]; omega
      rw [if_neg hlt] at HDEF
      clear hle hlt hcb hcm
      go_wp2_with fail
      refine HCO.out.mono ?_
      rintro e w2 ⟨rfl, b2⟩
      have h3 := HCM.out w2 b2
      have HB2 := Lib.hid b2
      clear b2
      go_wp2_with fail
      refine h3.mono ?_
      clear h3
      rintro e w3 ⟨rfl, b3⟩
      have HB3 := Lib.hid (HB2.out.trans (b3.mono HB2.out.size))
      clear b3
      have h4 := jcut_any Z (.slice ao n ca) xs (Wd - cm) w3 (HV.out.below HB3.out) (by have := HNB.out; omega)
      have hcl := cut_len (Wd - cm) xs
      obtain ⟨CU, hCU⟩ : ∃ CU, CU = cutC (Wd - cm) xs := ⟨_, rfl⟩
      rw [← hCU] at h4 hcl HDEF
      have HCL := Lib.hid hcl
      clear hCU hcl
      go_wp2_with fail
      refine h4.mono ?_
      clear h4
      rintro e w4 ⟨v4, rfl, ho4, b4⟩
      have HB4 := Lib.hid (HB3.out.trans (b4.mono HB3.out.size))
      have hh4 := held_of_owns ho4
      obtain ⟨a4, c4, rfl⟩ := hh4.len
      obtain ⟨cl, hcl⟩ : ∃ cl, cl = CU.length := ⟨_, rfl⟩
      rw [← hcl] at hh4 ⊢
      have hb5 := (Below.refl w4.heap.size w4).alloc (Nat.le_refl _) (.cells #[.slice a4 cl c4, .slice bo m cb] 34)
      have hnew := Has.new w4 [.slice a4 cl c4, .slice bo m cb] 34
      have HB5 := Lib.hid (HB4.out.trans (hb5.mono HB4.out.size))
      have hcat := rconcat_any (.slice (some ⟨w4.heap.size, 0, none⟩) 2 2) [CU, mk] (w4.alloc (.cells #[.slice a4 cl c4, .slice bo m cb] 34)) ⟨_, _, rfl, Nat.le_refl _, fun i hi => by
        have h3 : Held .i32 (w4.alloc (.cells #[.slice a4 cl c4, .slice bo m cb] 34)) (.slice a4 cl c4) CU := hh4.below hb5
        have h4 : Held .i32 (w4.alloc (.cells #[.slice a4 cl c4, .slice bo m cb] 34)) (.slice bo m cb) mk := (HU.out.below HB4.out).below hb5
        match i, hi with
        | 0, _ => exact ⟨_, 0, _, rfl, by simp, hnew.cell 0 _ rfl, h3⟩
        | 1, _ => exact ⟨_, 0, _, rfl, by simp, hnew.cell 1 _ rfl, h4⟩
        | i + 2, hi => exact absurd hi (by simp)⟩ (by simp) (by have := HCL.out; have := HNB.out; simp only [List.flatten_cons, List.flatten_nil, List.append_nil, List.length_append]; omega)
      rw [show [CU, mk].flatten = CU ++ mk from by simp] at hcat
      have HCML := Lib.hid (show (CU ++ mk).length ≤ 100000 from by rw [List.length_append]; have := HCL.out; have := HNB.out; omega)
      obtain ⟨CX, hCX⟩ : ∃ CX, CX = CU ++ mk := ⟨_, rfl⟩
      rw [← hCX] at hcat HCML HDEF
      have HCAT := Lib.hid hcat
      clear hcat hnew hb5 hh4 ho4 b4 hcl hCX
      go_wp2_with fail
      refine HCAT.out.mono ?_
      rintro e w6 ⟨v6, rfl, ho6, b6⟩
      have h7 := jpad_any v6 CX Wd side w6 (held_of_owns ho6) HCML.out
      rw [← HDEF.out] at h7
      have HB6 := Lib.hid (HB5.out.trans (b6.mono HB5.out.size))
      obtain ⟨a6, c6, rfl⟩ := (held_of_owns ho6).len
      obtain ⟨xl, hxl⟩ : ∃ xl, xl = CX.length := ⟨_, rfl⟩
      rw [← hxl] at h7 ⊢
      clear ho6 b6 hxl
      go_wp2_with fail
      refine h7.mono ?_
      clear h7
      rintro e w7 ⟨v7, rfl, ho, b7⟩
      have HO := Lib.hid (owns_mono ho HB6.out.size)
      have HB := Lib.hid (HB6.out.trans (b7.mono HB6.out.size))
      clear ho b7
      go_wp2
      go_ret
      exact ⟨_, (ret_eq (by first | rfl | (simp <;> omega))), HO.out, HB.out⟩
end Go.Proofs.YtkpmmkokfllafaaGreat
/- The works of layer 58; what is cut is at most so wide. -/
namespace Go.Proofs.YtkpmmkokfllafaaGreat
open Go.RowKit Go.ChangeShapes Go.WideShapes
theorem jw_fit : fitC 3 0 [97, 98, 99, 100] [46] = [97, 98, 46] := by decide +kernel
theorem jw_pad : padC 4 2 [97] = [32, 97, 32, 32] := by decide +kernel
end Go.Proofs.YtkpmmkokfllafaaGreat
