/- Texts put together: JusF, TblC. -/
import Derived.Test.YtkpmmkokfllafaaGreatJusR
import Derived.Test.YtkpmmkokfllafaaGreatTblA
/- The reference's Fit (58). -/
namespace Go.Proofs.YtkpmmkokfllafaaGreat
open Go.RowKit Go.ChangeShapes Go.WideShapes
theorem own_some8 {α : Type} {E : Elem α} {Z : Zone} {w : World} {B : Nat} {ty : TypeId} {v : Value} {L : List α} (h : OwnE E Z w B ty v L) (h0 : 0 < L.length) : ∃ g cap, v = .slice (some ⟨g, 0, none⟩) L.length cap ∧ L.length ≤ cap ∧ ∃ D, w.heap[g]? = some (.cells D ty (0, 0)) := by
  obtain ⟨CS, h1, _⟩ := h
  rcases h1.2 with ⟨_, h2⟩ | ⟨g, cap, cur, rfl, hB, hg, hn, rest⟩
  · omega
  · exact ⟨g, cap, rfl, hn, cur, hg⟩
theorem app_b32 {a b : List Int} (ha : bounds32 a) (hb : bounds32 b) : bounds32 (a ++ b) := by
  intro i hi
  by_cases h : i < a.length
  · have := ha i h
    rw [show (a ++ b).getD i 0 = a.getD i 0 from by simp [List.getD, List.getElem?_append_left h]]
    exact this
  · have := hb (i - a.length) (by rw [List.length_append] at hi; omega)
    rw [show (a ++ b).getD i 0 = b.getD (i - a.length) 0 from by simp [List.getD, List.getElem?_append_right (show a.length ≤ i by omega)]]
    exact this
set_option maxRecDepth 100000 in
set_option maxHeartbeats 2000000 in
theorem rjfit_any (v u : Value) (xs mk : List Int) (W side : Int) (w : World) (hv : HeldE (intE .i32) (fun b => b < w.heap.size) w v xs) (hu : HeldE (intE .i32) (fun b => b < w.heap.size) w u mk) (hn : xs.length ≤ 10000) (hm : mk.length ≤ 10000) (hr : bounds32 xs) (hrm : bounds32 mk) : Calls Tryz.prog 17 #[v, .int .i64 W, .int .i64 side, u] w (CatOk w (fitC W side xs mk)) := by
  obtain ⟨ao, ca, rfl⟩ := hv.len
  obtain ⟨bo, cb, rfl⟩ := hu.len
  have hwe : max 0 (min W 1024) = wc W := by unfold wc; omega
  have HWE := Lib.hid hwe
  have hwd := wc_bd W
  have HV := Lib.hid hv
  have HU := Lib.hid hu
  have hcb := colsC_bd xs
  have hcm := colsC_bd mk
  have HR := Lib.hid (And.intro hr hrm)
  have HDEF := Lib.hid (show fitC W side xs mk = if colsC xs ≤ wc W then padC (wc W) side xs else if wc W < colsC mk then padC (wc W) side (cutC (wc W) xs) else padC (wc W) side (cutC (wc W - colsC mk) xs ++ mk) from rfl)
  have HNB := Lib.hid (And.intro hn hm)
  have HCM := Lib.hid (rcols_any _ _ mk w hu (by omega) hrm)
  have HCO := Lib.hid (show ∀ w', Below w.heap.size w w' → Calls Tryz.prog 15 #[.slice ao xs.length ca] w' (Gives w' (.int .i64 (colsC xs))) from fun w' h => rcols_any _ _ xs w' (HV.out.below h) (by omega) hr)
  obtain ⟨n, hnn⟩ : ∃ n, n = xs.length := ⟨_, rfl⟩
  have HN := Lib.hid hnn
  rw [← hnn] at HCO HV ⊢
  obtain ⟨m, hmm⟩ : ∃ m, m = mk.length := ⟨_, rfl⟩
  have HM := Lib.hid hmm
  rw [← hmm] at HCM HU ⊢
  obtain ⟨Wd, hWd⟩ : ∃ Wd, Wd = wc W := ⟨_, rfl⟩
  rw [← hWd] at HWE hwd HDEF
  obtain ⟨cc, hcc⟩ : ∃ cc, cc = colsC xs := ⟨_, rfl⟩
  rw [← hcc] at HCO HDEF hcb
  obtain ⟨cm, hcm9⟩ : ∃ cm, cm = colsC mk := ⟨_, rfl⟩
  rw [← hcm9] at HCM HDEF hcm
  obtain ⟨FIT, hFIT⟩ : ∃ FIT, FIT = fitC W side xs mk := ⟨_, rfl⟩
  rw [← hFIT] at HDEF ⊢
  have hsub : IntKind.i64.wrap (Wd - cm) = Wd - cm := by rw [IntKind.wrap_i64]; omega
  clear hv hu hn hm hnn hmm hWd hcc hcm9 hFIT hwd hwe hr hrm
  go_enter Tryz.func17, Tryz.ntmps17
  go_wp2_with fail
  rw [HWE.out]
  refine HCM.out.mono ?_
  rintro e w1 ⟨rfl, b1⟩
  have h2 := HCO.out w1 b1
  have HB1 := Lib.hid b1
  clear b1 HCM
  go_wp2_with fail
  refine h2.mono ?_
  clear h2
  rintro e w2 ⟨rfl, b2⟩
  have HB2 := Lib.hid (HB1.out.trans (b2.mono HB1.out.size))
  have HV2 := Lib.hid ((HV.out.below HB2.out).zone (Y := fun b => b < w2.heap.size) (fun b h _ => h))
  clear b2
  by_cases hle : cc ≤ Wd
  · have hg : decide (cc ≤ Wd) = true := by simpa using hle
    rw [if_pos hle] at HDEF
    have h3 := rjpad_any _ xs Wd side w2 HV2.out (by have := HNB.out; omega) HR.out.1
    rw [← HDEF.out] at h3
    clear hle hcb hcm
    go_wp2_with fail
    refine h3.mono ?_
    clear h3
    rintro e w3 ⟨v3, rfl, ho, b3⟩
    have HO := Lib.hid (owns_mono ho HB2.out.size)
    have HB := Lib.hid (HB2.out.trans (b3.mono HB2.out.size))
    clear ho b3
    go_wp2
    go_ret
    exact ⟨_, (ret_eq (by first | rfl | (simp <;> omega))), HO.out, HB.out⟩
  · have hg : decide (cc ≤ Wd) = false := by simpa using hle
    rw [if_neg hle] at HDEF
    by_cases hlt : Wd < cm
    · have hg2 : decide (Wd < cm) = true := by rw [decide_eq_true_eq]; exact hlt
      rw [if_pos hlt] at HDEF
      have h4 := rjcut_any (.slice ao n ca) xs Wd w2 HV2.out (by have := HNB.out; omega) HR.out.1
      have hcl := cut_len Wd xs
      have hcr : bounds32 (cutC Wd xs) := take_b32 HR.out.1 _
      obtain ⟨CU, hCU⟩ : ∃ CU, CU = cutC Wd xs := ⟨_, rfl⟩
      rw [← hCU] at h4 hcl HDEF hcr
      have HCL := Lib.hid hcl
      have HCR := Lib.hid hcr
      clear hle hlt hcb hcm hCU hcl hcr
      go_wp2_with fail
      refine h4.mono ?_
      clear h4
      rintro e w4 ⟨v4, rfl, ho4, b4⟩
      have HB4 := Lib.hid (HB2.out.trans (b4.mono HB2.out.size))
      have hh4 := ((ownE_ints (Z := fun _ => True) ho4).held (Z := fun _ => True) (fun _ _ _ => trivial)).lower
      have h5 := rjpad_any v4 CU Wd side w4 hh4 (by have := HCL.out; have := HNB.out; omega) HCR.out
      rw [← HDEF.out] at h5
      obtain ⟨a4, c4, rfl⟩ := hh4.len
      obtain ⟨xl, hxl⟩ : ∃ xl, xl = CU.length := ⟨_, rfl⟩
      rw [← hxl] at h5 ⊢
      clear ho4 b4 hxl hh4
      go_wp2_with fail
      refine h5.mono ?_
      clear h5
      rintro e w5 ⟨v5, rfl, ho, b5⟩
      have HO := Lib.hid (owns_mono ho HB4.out.size)
      have HB := Lib.hid (HB4.out.trans (b5.mono HB4.out.size))
      clear ho b5
      go_wp2
      go_ret
      exact ⟨_, (ret_eq (by first | rfl | (simp <;> omega))), HO.out, HB.out⟩
    · have hg2 : decide (Wd < cm) = false := by rw [decide_eq_false_iff_not]; exact hlt
      rw [if_neg hlt] at HDEF
      have h4 := rjcut_any (.slice ao n ca) xs (Wd - cm) w2 HV2.out (by have := HNB.out; omega) HR.out.1
      have hcl := cut_len (Wd - cm) xs
      have hcr : bounds32 (cutC (Wd - cm) xs) := take_b32 HR.out.1 _
      obtain ⟨CU, hCU⟩ : ∃ CU, CU = cutC (Wd - cm) xs := ⟨_, rfl⟩
      rw [← hCU] at h4 hcl HDEF hcr
      have HCL := Lib.hid hcl
      have HCR := Lib.hid (app_b32 hcr HR.out.2)
      clear hle hlt hcb hcm hCU hcl hcr
      go_wp2_with fail
      refine h4.mono ?_
      clear h4
      rintro e w4 ⟨v4, rfl, ho4, b4⟩
      have HB4 := Lib.hid (HB2.out.trans (b4.mono HB2.out.size))
      have ho5 := ownE_ints (Z := fun _ => True) ho4
      obtain ⟨a4, c4, rfl⟩ := (ho5.held (Z := fun _ => True) (fun _ _ _ => trivial)).len
      have HO5 := Lib.hid ho5
      have HU5 := Lib.hid ((((HU.out.below HB4.out).zone (Y := fun b => b < w2.heap.size) (fun b _ hz => by have := HB2.out.size; omega)).apart (v := .slice a4 CU.length c4) (w' := w4) ho5.lt))
      obtain ⟨xl, hxl⟩ : ∃ xl, xl = CU.length := ⟨_, rfl⟩
      rw [← hxl] at HO5 HU5 ⊢
      have HXL := Lib.hid hxl
      have HB24 := Lib.hid b4.size
      clear ho4 b4 hxl ho5
      go_wp2_with (at_builtin; refine wpList_append_e (E := intE .i32) (Z := fun _ => True) rfl (.tmp 36) (.tmp 37) 34 rfl (.int .i32 0) 4 Tryz.underlying34 info_tx8 rfl (by decide) rfl rfl HO5.out HU5.out (by have := HCL.out; have := HNB.out; omega) (by have := HCL.out; have := HNB.out; omega) HB24.out ?_)
      intro v6 w6 ho6 b6 k6 _
      have HB6 := Lib.hid (HB4.out.trans (show Below w.heap.size w4 w6 from b6.mono HB2.out.size))
      obtain ⟨CX, hCX⟩ : ∃ CX, CX = CU ++ mk := ⟨_, rfl⟩
      rw [← hCX] at ho6 HDEF HCR
      have HCXL := Lib.hid (show CX.length ≤ 100000 from by rw [hCX, List.length_append]; have := HCL.out; have := HNB.out; omega)
      have hh6 := (ho6.held (Z := fun _ => True) (fun _ _ _ => trivial)).lower
      have h7 := rjpad_any v6 CX Wd side w6 hh6 HCXL.out HCR.out
      rw [← HDEF.out] at h7
      obtain ⟨a6, c6, rfl⟩ := hh6.len
      obtain ⟨yl, hyl⟩ : ∃ yl, yl = CX.length := ⟨_, rfl⟩
      rw [← hyl] at h7 ⊢
      clear ho6 b6 k6 hh6 hCX hyl
      go_wp2_with fail
      refine h7.mono ?_
      clear h7
      rintro e w7 ⟨v7, rfl, ho, b7⟩
      have HO := Lib.hid (owns_mono ho HB6.out.size)
      have HB := Lib.hid (HB6.out.trans (b7.mono HB6.out.size))
      clear ho b7
      go_wp2
      go_ret
      exact ⟨_, (ret_eq (by first | rfl | (simp <;> omega))), HO.out, HB.out⟩
end Go.Proofs.YtkpmmkokfllafaaGreat
/- The reference's At and Width (60). -/
namespace Go.Proofs.YtkpmmkokfllafaaGreat
open Go.RowKit Go.ChangeShapes Go.WideShapes
attribute [local go_sem] Oper.semAt_some
set_option maxRecDepth 100000 in
set_option maxHeartbeats 1600000 in
theorem rat_any (Z : Zone) (v : Value) (rows : List (List (List Int))) (i k : Nat) (w : World) (hv : HeldE rowsE Z w v rows) (hi : i < rows.length) (hk : k ≤ 1000000) (hn : rows.length ≤ 1000000) : ∃ tv, HeldE (intE .i32) Z w tv (atC rows i k) ∧ ∀ w', Below w.heap.size w w' → Calls Tryz.prog 16 #[v, .int .i64 (i : Int), .int .i64 (k : Int)] w' (fun e w9 => e = .returned tv ∧ w' = w9) := by
  obtain ⟨ao, ca, rfl⟩ := hv.len
  have hcap1 := hv.spots.2.1
  obtain ⟨b2, o2, e2, hb2, hz2, C2, q2, rv, hC2, hrv⟩ := hv.spots.2.2 i hi
  subst e2 hC2
  have d1 : w.cell? ⟨b2, o2 + i, none⟩ = some rv := by have := q2 0 (by decide); simpa [show rowsE.size = 1 from rfl] using this
  rw [show rows.getD i rowsE.zero = rows.getD i [] from rfl] at hrv
  have hat : atC rows i k = (rows.getD i []).getD k [] := rfl
  obtain ⟨row, hrow⟩ : ∃ row, row = rows.getD i [] := ⟨_, rfl⟩
  rw [← hrow] at hrv hat
  rw [hat]
  obtain ⟨rl, hrl⟩ : ∃ rl, rl = rows.length := ⟨_, rfl⟩
  rw [← hrl] at hi hcap1 hn ⊢
  clear hv q2 hz2 hat hrow hrl
  have hii : (i : Int) < (rl : Int) := by omega
  have hic : i < ca := by omega
  obtain ⟨a3, c3, rfl⟩ := hrv.len
  by_cases h : k < row.length
  · have hcap := hrv.spots.2.1
    obtain ⟨b, o, e1, hb, hz, C1, q1, tv, hC1, ht⟩ := hrv.spots.2.2 k h
    subst e1 hC1
    have d2 : w.cell? ⟨b, o + k, none⟩ = some tv := by have := q1 0 (by decide); simpa [show rowE.size = 1 from rfl] using this
    refine ⟨tv, ht, fun w' hb9 => ?_⟩
    have d3 := (hb9.cell (p := ⟨b, o + k, none⟩) hb).trans d2
    have d4 := (hb9.cell (p := ⟨b2, o2 + i, none⟩) hb2).trans d1
    obtain ⟨n, hn9⟩ : ∃ n, n = row.length := ⟨_, rfl⟩
    rw [← hn9] at h hcap d4
    have hk1 : decide ((k : Int) < (n : Int)) = true := by rw [decide_eq_true_eq]; omega
    have hk2 : decide (k < n) = true := by rw [decide_eq_true_eq]; omega
    have hki : (k : Int) < n := by omega
    have hkc : k < c3 := by omega
    clear hrv hb9 q1 ht d1 d2 hn9 hb hb2 hz
    go_enter Tryz.func16, Tryz.ntmps16
    go_wp2
    go_ret
    exact ⟨(ret_eq (by first | rfl | (simp <;> omega))), rfl⟩
  · refine ⟨.slice none 0 0, ?_, fun w' hb9 => ?_⟩
    · rw [show row.getD k [] = [] from by simp [List.getD, List.getElem?_eq_none (show row.length ≤ k by omega)]]
      exact HeldE.nil _ _ _
    have d4 := (hb9.cell (p := ⟨b2, o2 + i, none⟩) hb2).trans d1
    obtain ⟨n, hn9⟩ : ∃ n, n = row.length := ⟨_, rfl⟩
    rw [← hn9] at h d4
    have hk1 : decide ((k : Int) < (n : Int)) = false := by rw [decide_eq_false_iff_not]; omega
    have hk2 : decide (k < n) = false := by rw [decide_eq_false_iff_not]; omega
    clear hrv hb9 d1 hn9 hb2
    go_enter Tryz.func16, Tryz.ntmps16
    go_wp2
    go_ret
    exact ⟨(ret_eq (by first | rfl | (simp <;> omega))), rfl⟩
set_option maxRecDepth 100000 in
set_option maxHeartbeats 1600000 in
theorem rwid_any (Z : Zone) (v : Value) (rows : List (List (List Int))) (k : Nat) (most : Int) (w : World) (hv : HeldE rowsE Z w v rows) (hk : k ≤ 1000000) (hn : rows.length ≤ 1000000) (ht : ∀ i k, (atC rows i k).length ≤ 1000) (hr : ∀ i k, bounds32 (atC rows i k)) : Calls Tryz.prog 8 #[v, .int .i64 (k : Int), .int .i64 most] w (Gives w (.int .i64 (widC rows k most))) := by
  obtain ⟨ao, ca, rfl⟩ := hv.len
  have HAT := Lib.hid (fun i (hi : i < rows.length) => rat_any Z _ rows i k w hv hi hk hn)
  have HR := Lib.hid hr
  have HT := Lib.hid ht
  have HMB := Lib.hid (fun n => maxW_bd rows k (fun i => ht i k) n)
  have hdef : widC rows k most = min (mostW most (maxW rows k rows.length)) 1024 := rfl
  have HHELD := Lib.hid hv
  obtain ⟨rl, hrl⟩ : ∃ rl, rl = rows.length := ⟨_, rfl⟩
  rw [← hrl] at hn hdef HAT HHELD ⊢
  have HDEF := Lib.hid hdef
  clear hv ht hr hrl hdef
  go_enter Tryz.func8, Tryz.ntmps8
  go_wp2
  go_loopw [7, 8] (fun mv iv wr => ∃ i : Nat, i ≤ rl ∧ iv = .int .i64 i ∧ mv = .int .i64 (maxW rows k i) ∧ Below w.heap.size w wr) (fun _ iv _ => rl - (intOf iv).toNat)
  case atStart => exact ⟨0, Nat.zero_le _, rfl, rfl, .refl _ _⟩
  case round =>
    obtain ⟨i, hi, rfl, rfl, hbw⟩ := hrel
    obtain ⟨wi, hwi⟩ : ∃ wi, wi = wr := ⟨_, rfl⟩
    subst hwi
    have HBW := Lib.hid hbw
    clear hbw
    by_cases hlt : i < rl
    · have hii : decide ((i : Int) < (rl : Int)) = true := by rw [decide_eq_true_eq]; omega
      have hii2 : decide (i < rl) = true := by rw [decide_eq_true_eq]; omega
      have hwi : IntKind.i64.wrap ((i : Int) + 1) = (i : Int) + 1 := by rw [IntKind.wrap_i64]; omega
      obtain ⟨tv, htv, hat⟩ := HAT.out i hlt
      have hcol := rcols_any _ tv _ wi (htv.below HBW.out) (by have := HT.out i k; omega) (HR.out i k)
      have hmx : maxW rows k (i + 1) = max (maxW rows k i) (colsC (atC rows i k)) := rfl
      obtain ⟨mx, hmxe⟩ : ∃ mx, mx = maxW rows k i := ⟨_, rfl⟩
      obtain ⟨cc, hcc⟩ : ∃ cc, cc = colsC (atC rows i k) := ⟨_, rfl⟩
      rw [← hmxe] at hmx ⊢
      rw [← hcc] at hcol hmx
      have HMX := Lib.hid hmx
      have h1 := hat wi HBW.out
      have HCOL := Lib.hid hcol
      clear htv hat hcol hmx hmxe hcc
      go_wp2_with fail
      refine h1.mono ?_
      rintro e w2 ⟨rfl, rfl⟩
      clear h1
      go_wp2_with fail
      refine HCOL.out.mono ?_
      rintro e w3 ⟨rfl, hb3⟩
      have HB3 := Lib.hid (HBW.out.trans (hb3.mono HBW.out.size))
      clear hb3
      go_wp2
      go_roundw
      case rel => exact ⟨i + 1, by omega, by go_num, by rw [HMX.out], HB3.out⟩
      case measure => simp [intOf] <;> omega
    · obtain rfl : i = rl := by omega
      have hmx := HMB.out i
      have hd := HDEF.out
      obtain ⟨mx, hmxe⟩ : ∃ mx, mx = maxW rows k i := ⟨_, rfl⟩
      rw [← hmxe] at hd hmx ⊢
      have HD := Lib.hid hd
      clear hmxe hd
      by_cases h1 : 0 < most
      · have hg1 : decide ((0 : Int) < most) = true := by rw [decide_eq_true_eq]; exact h1
        by_cases h2 : most < mx
        · have hg2 : decide (most < mx) = true := by rw [decide_eq_true_eq]; exact h2
          have HE := Lib.hid (show widC rows k most = min most 1024 from by rw [HD.out]; unfold mostW; rw [if_pos h1]; omega)
          clear h1 h2
          go_wp2
          go_ret
          exact ⟨by rw [HE.out]; exact (ret_eq (by first | rfl | (simp <;> omega))), HBW.out⟩
        · have hg2 : decide (most < mx) = false := by rw [decide_eq_false_iff_not]; exact h2
          have HE := Lib.hid (show widC rows k most = min mx 1024 from by rw [HD.out]; unfold mostW; rw [if_pos h1]; omega)
          clear h1 h2
          go_wp2
          go_ret
          exact ⟨by rw [HE.out]; exact (ret_eq (by first | rfl | (simp <;> omega))), HBW.out⟩
      · have hg1 : decide ((0 : Int) < most) = false := by rw [decide_eq_false_iff_not]; exact h1
        have HE := Lib.hid (show widC rows k most = min mx 1024 from by rw [HD.out]; unfold mostW; rw [if_neg h1])
        clear h1
        go_wp2
        go_ret
        exact ⟨by rw [HE.out]; exact (ret_eq (by first | rfl | (simp <;> omega))), HBW.out⟩
end Go.Proofs.YtkpmmkokfllafaaGreat
