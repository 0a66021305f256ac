/- The reference's Fit (58). -/
import Derived.Test.YtgkcobmbdpgceaaGreatJusR
namespace Go.Proofs.YtgkcobmbdpgceaaGreat
open Go.RowKit Go.ChangeShapes Go.WideShapes
theorem own_some8 {α : Type} {E : Elem α} {Z : Zone} {w : World} {B : Nat} {ty : TypeId} {v : Value} {L : List α} (h : OwnE E Z w B ty v L) (h0 : 0 < L.length) : ∃ g cap, v = .slice (some ⟨g, 0, none⟩) L.length cap ∧ L.length ≤ cap ∧ ∃ D, w.heap[g]? = some (.cells D ty (0, 0)) := by
  obtain ⟨CS, h1, _⟩ := h
  rcases h1.2 with ⟨_, h2⟩ | ⟨g, cap, cur, rfl, hB, hg, hn, rest⟩
  · omega
  · exact ⟨g, cap, rfl, hn, cur, hg⟩
theorem app_b32 {a b : List Int} (ha : bounds32 a) (hb : bounds32 b) : bounds32 (a ++ b) := by
  intro i hi
  by_cases h : i < a.length
  · have := ha i h
    rw [show (a ++ b).getD i 0 = a.getD i 0 from by simp [List.getD, List.getElem?_append_left h]]
    exact this
  · have := hb (i - a.length) (by rw [List.length_append] at hi; omega)
    rw [show (a ++ b).getD i 0 = b.getD (i - a.length) 0 from by simp [List.getD, List.getElem?_append_right (show a.length ≤ i by omega)]]
    exact this
set_option maxRecDepth 100000 in
set_option maxHeartbeats 2000000 in
theorem rjfit_any (v u : Value) (xs mk : List Int) (W side : Int) (w : World) (hv : HeldE (intE .i32) (fun b => b < w.heap.size) w v xs) (hu : HeldE (intE .i32) (fun b => b < w.heap.size) w u mk) (hn : xs.length ≤ 10000) (hm : mk.length ≤ 10000) (hr : bounds32 xs) (hrm : bounds32 mk) : Calls Tryz.prog 10 #[v, .int .i64 W, .int .i64 side, u] w (CatOk w (fitC W side xs mk)) := by
  obtain ⟨ao, ca, rfl⟩ := hv.len
  obtain ⟨bo, cb, rfl⟩ := hu.len
  have hwe : max 0 (min W 1024) = wc W := by unfold wc; omega
  have HWE := Lib.hid hwe
  have hwd := wc_bd W
  have HV := Lib.hid hv
  have HU := Lib.hid hu
  have hcb := colsC_bd xs
  have hcm := colsC_bd mk
  have HR := Lib.hid (And.intro hr hrm)
  have HDEF := Lib.hid (show fitC W side xs mk = if colsC xs ≤ wc W then padC (wc W) side xs else if wc W < colsC mk then padC (wc W) side (cutC (wc W) xs) else padC (wc W) side (cutC (wc W - colsC mk) xs ++ mk) from rfl)
  have HNB := Lib.hid (And.intro hn hm)
  have HCM := Lib.hid (rcols_any _ _ mk w hu (by omega) hrm)
  have HCO := Lib.hid (show ∀ w', Below w.heap.size w w' → Calls Tryz.prog 23 #[.slice ao xs.length ca] w' (Gives w' (.int .i64 (colsC xs))) from fun w' h => rcols_any _ _ xs w' (HV.out.below h) (by omega) hr)
  obtain ⟨n, hnn⟩ : ∃ n, n = xs.length := ⟨_, rfl⟩
  have HN := Lib.hid hnn
  rw [← hnn] at HCO HV ⊢
  obtain ⟨m, hmm⟩ : ∃ m, m = mk.length := ⟨_, rfl⟩
  have HM := Lib.hid hmm
  rw [← hmm] at HCM HU ⊢
  obtain ⟨Wd, hWd⟩ : ∃ Wd, Wd = wc W := ⟨_, rfl⟩
  rw [← hWd] at HWE hwd HDEF
  obtain ⟨cc, hcc⟩ : ∃ cc, cc = colsC xs := ⟨_, rfl⟩
  rw [← hcc] at HCO HDEF hcb
  obtain ⟨cm, hcm9⟩ : ∃ cm, cm = colsC mk := ⟨_, rfl⟩
  rw [← hcm9] at HCM HDEF hcm
  obtain ⟨FIT, hFIT⟩ : ∃ FIT, FIT = fitC W side xs mk := ⟨_, rfl⟩
  rw [← hFIT] at HDEF ⊢
  have hsub : IntKind.i64.wrap (Wd - cm) = Wd - cm := by rw [IntKind.wrap_i64]; omega
  clear hv hu hn hm hnn hmm hWd hcc hcm9 hFIT hwd hwe hr hrm
  go_enter Tryz.func10, Tryz.ntmps10
  go_wp2_with fail
  rw [HWE.out]
  refine HCM.out.mono ?_
  rintro e w1 ⟨rfl, b1⟩
  have h2 := HCO.out w1 b1
  have HB1 := Lib.hid b1
  clear b1 HCM
  go_wp2_with fail
  refine h2.mono ?_
  clear h2
  rintro e w2 ⟨rfl, b2⟩
  have HB2 := Lib.hid (HB1.out.trans (b2.mono HB1.out.size))
  have HV2 := Lib.hid ((HV.out.below HB2.out).zone (Y := fun b => b < w2.heap.size) (fun b h _ => h))
  clear b2
  by_cases hle : cc ≤ Wd
  · have hg : decide (cc ≤ Wd) = true := by simpa using hle
    rw [if_pos hle] at HDEF
    have h3 := rjpad_any _ xs Wd side w2 HV2.out (by have := HNB.out; omega) HR.out.1
    rw [← HDEF.out] at h3
    clear hle hcb hcm
    go_wp2_with fail
    refine h3.mono ?_
    clear h3
    rintro e w3 ⟨v3, rfl, ho, b3⟩
    have HO := Lib.hid (owns_mono ho HB2.out.size)
    have HB := Lib.hid (HB2.out.trans (b3.mono HB2.out.size))
    clear ho b3
    go_wp2
    go_ret
    exact ⟨_, (ret_eq (by first | rfl | (simp <;> omega))), HO.out, HB.out⟩
  · have hg : decide (cc ≤ Wd) = false := by simpa using hle
    rw [if_neg hle] at HDEF
    by_cases hlt : Wd < cm
    · have hg2 : decide (Wd < cm) = true := by rw [decide_eq_true_eq]; exact hlt
      rw [if_pos hlt] at HDEF
      have h4 := rjcut_any (.slice ao n ca) xs Wd w2 HV2.out (by have := HNB.out; omega) HR.out.1
      have hcl := cut_len Wd xs
      have hcr : bounds32 (cutC Wd xs) := take_b32 HR.out.1 _
      obtain ⟨CU, hCU⟩ : ∃ CU, CU = cutC Wd xs := ⟨_, rfl⟩
      rw [← hCU] at h4 hcl HDEF hcr
      have HCL := Lib.hid hcl
      have HCR := Lib.hid hcr
      clear hle hlt hcb hcm hCU hcl hcr
      go_wp2_with fail
      refine h4.mono ?_
      clear h4
      rintro e w4 ⟨v4, rfl, ho4, b4⟩
      have HB4 := Lib.hid (HB2.out.trans (b4.mono HB2.out.size))
      have hh4 := ((ownE_ints (Z := fun _ => True) ho4).held (Z := fun _ => True) (fun _ _ _ => trivial)).lower
      have h5 := rjpad_any v4 CU Wd side w4 hh4 (by have := HCL.out; have := HNB.out; omega) HCR.out
      rw [← HDEF.out] at h5
      obtain ⟨a4, c4, rfl⟩ := hh4.len
      obtain ⟨xl, hxl⟩ : ∃ xl, xl = CU.length := ⟨_, rfl⟩
      rw [← hxl] at h5 ⊢
      clear ho4 b4 hxl hh4
      go_wp2_with fail
      refine h5.mono ?_
      clear h5
      rintro e w5 ⟨v5, rfl, ho, b5⟩
      have HO := Lib.hid (owns_mono ho HB4.out.size)
      have HB := Lib.hid (HB4.out.trans (b5.mono HB4.out.size))
      clear ho b5
      go_wp2
      go_ret
      exact ⟨_, (ret_eq (by first | rfl | (simp <;> omega))), HO.out, HB.out⟩
    · have hg2 : decide (Wd < cm) = false := by rw [decide_eq_false_iff_not]; exact hlt
      rw [if_neg hlt] at HDEF
      have h4 := rjcut_any (.slice ao n ca) xs (Wd - cm) w2 HV2.out (by have := HNB.out; omega) HR.out.1
      have hcl := cut_len (Wd - cm) xs
      have hcr : bounds32 (cutC (Wd - cm) xs) := take_b32 HR.out.1 _
      obtain ⟨CU, hCU⟩ : ∃ CU, CU = cutC (Wd - cm) xs := ⟨_, rfl⟩
      rw [← hCU] at h4 hcl HDEF hcr
      have HCL := Lib.hid hcl
      have HCR := Lib.hid (app_b32 hcr HR.out.2)
      clear hle hlt hcb hcm hCU hcl hcr
      go_wp2_with fail
      refine h4.mono ?_
      clear h4
      rintro e w4 ⟨v4, rfl, ho4, b4⟩
      have HB4 := Lib.hid (HB2.out.trans (b4.mono HB2.out.size))
      have ho5 := ownE_ints (Z := fun _ => True) ho4
      obtain ⟨a4, c4, rfl⟩ := (ho5.held (Z := fun _ => True) (fun _ _ _ => trivial)).len
      have HO5 := Lib.hid ho5
      have HU5 := Lib.hid ((((HU.out.below HB4.out).zone (Y := fun b => b < w2.heap.size) (fun b _ hz => by have := HB2.out.size; omega)).apart (v := .slice a4 CU.length c4) (w' := w4) ho5.lt))
      obtain ⟨xl, hxl⟩ : ∃ xl, xl = CU.length := ⟨_, rfl⟩
      rw [← hxl] at HO5 HU5 ⊢
      have HXL := Lib.hid hxl
      have HB24 := Lib.hid b4.size
      clear ho4 b4 hxl ho5
      go_wp2_with (at_builtin; refine wpList_append_e (E := intE .i32) (Z := fun _ => True) rfl (.tmp 36) (.tmp 37) 22 rfl (.int .i32 0) 4 Tryz.underlying22 info_tx8 rfl (by decide) rfl rfl HO5.out HU5.out (by have := HCL.out; have := HNB.out; omega) (by have := HCL.out; have := HNB.out; omega) HB24.out ?_)
      intro v6 w6 ho6 b6 k6 _
      have HB6 := Lib.hid (HB4.out.trans (show Below w.heap.size w4 w6 from b6.mono HB2.out.size))
      obtain ⟨CX, hCX⟩ : ∃ CX, CX = CU ++ mk := ⟨_, rfl⟩
      rw [← hCX] at ho6 HDEF HCR
      have HCXL := Lib.hid (show CX.length ≤ 100000 from by rw [hCX, List.length_append]; have := HCL.out; have := HNB.out; omega)
      have hh6 := (ho6.held (Z := fun _ => True) (fun _ _ _ => trivial)).lower
      have h7 := rjpad_any v6 CX Wd side w6 hh6 HCXL.out HCR.out
      rw [← HDEF.out] at h7
      obtain ⟨a6, c6, rfl⟩ := hh6.len
      obtain ⟨yl, hyl⟩ : ∃ yl, yl = CX.length := ⟨_, rfl⟩
      rw [← hyl] at h7 ⊢
      clear ho6 b6 k6 hh6 hCX hyl
      go_wp2_with fail
      refine h7.mono ?_
      clear h7
      rintro e w7 ⟨v7, rfl, ho, b7⟩
      have HO := Lib.hid (owns_mono ho HB6.out.size)
      have HB := Lib.hid (HB6.out.trans (b7.mono HB6.out.size))
      clear ho b7
      go_wp2
      go_ret
      exact ⟨_, (ret_eq (by first | rfl | (simp <;> omega))), HO.out, HB.out⟩
end Go.Proofs.YtgkcobmbdpgceaaGreat
