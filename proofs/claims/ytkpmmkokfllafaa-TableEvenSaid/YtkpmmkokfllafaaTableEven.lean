/- TableEven (60.3) answers true at every table, gap and columns, and turns nothing. No condition: a text is no longer than the form's reach. -/
import Derived.Test.YtkpmmkokfllafaaMg10
import Derived.Test.YtkpmmkokfllafaaTblW
import Derived.Test.YtkpmmkokfllafaaMg1
import Derived.Test.YtkpmmkokfllafaaMg6
import Derived.ProofKit
namespace Go.Proofs.Ytkpmmkokfllafaa.lawTableEven
open Go.ChangeShapes Go.WideShapes Go.ChangeAt Go.RowKit
attribute [local go_sem] Oper.semAt_some
theorem plain_nil : plainB [] = true := by decide
set_option maxRecDepth 100000 in
set_option maxHeartbeats 6000000 in
theorem walkH (W : World) (v u : Value) (rows : List (List (List Int))) (cols : List (Int × Int)) (gap : Int) (hv : HeldE rowsE (fun b => b < W.heap.size) W v rows) (hu : HeldE colE (fun b => b < W.heap.size) W u cols) (hr : ∀ i k, bounds32 (atC rows i k)) (ht : ∀ i k, (atC rows i k).length ≤ 35184372088832) : Calls Try.prog 3 #[v, .int .i64 gap, u] W (Yes W) := by
  have hmx1 := hv.max
  have hmx2 := hu.max
  obtain ⟨ao, ca, rfl⟩ := hv.len
  obtain ⟨bo, cb, rfl⟩ := hu.len
  have HV := Lib.hid hv
  have HR := Lib.hid hr
  have hcap1 := hv.spots.2.1
  have hcap2 := hu.spots.2.1
  have HG := Lib.hid (fun (w1 : World) (b1 : Below W.heap.size W w1) => great60_any _ _ rows w1 (hv.below b1) ht)
  have HTW := Lib.hid (fun (w1 : World) (b1 : Below W.heap.size W w1) => twid_any _ _ rows cols w1 ((hv.below b1).zone fun b hb _ => hb) ((hu.below b1).zone fun b hb _ => hb))
  have HTL := Lib.hid (fun (gp : Int) (w1 : World) (b1 : Below W.heap.size W w1) => tlines_any _ _ rows cols gp w1 ((hv.below b1).zone fun b hb _ => hb) ((hu.below b1).zone fun b hb _ => hb))
  obtain ⟨rl, hrl⟩ : ∃ rl, rl = rows.length := ⟨_, rfl⟩
  obtain ⟨cl, hcl⟩ : ∃ cl, cl = cols.length := ⟨_, rfl⟩
  rw [← hrl] at hmx1 hcap1 HV HG HTW HTL ⊢
  rw [← hcl] at hmx2 hcap2 HTW HTL ⊢
  have HRL0 := Lib.hid hrl
  have HCL0 := Lib.hid hcl
  clear hv hu hr ht hrl hcl
  obtain ⟨y, hy⟩ : ∃ y, y = IntKind.u64.wrap gap := ⟨_, rfl⟩
  have hy0 : 0 ≤ y ∧ y ≤ 18446744073709551615 := by rw [hy, IntKind.wrap_u64]; omega
  obtain ⟨c, hc⟩ : ∃ c : Nat, y % 20 = (c : Int) := ⟨(y % 20).toNat, by omega⟩
  have hc20 : c < 20 := by omega
  have hy' : IntKind.u64.wrap gap = y := hy.symm
  have hct : y.tmod 20 = (c : Int) := by rw [Int.tmod_eq_emod_of_nonneg hy0.1]; exact hc
  have hwc : IntKind.i64.wrap (c : Int) = (c : Int) := by rw [IntKind.wrap_i64]; omega
  clear hy hy0 hc
  obtain ⟨gp, hgp⟩ : ∃ gp : Int, IntKind.i64.wrap (1 + (c : Int)) = gp ∧ 1 ≤ gp ∧ gp ≤ 20 := ⟨1 + (c : Int), by rw [IntKind.wrap_i64]; omega, by omega, by omega⟩
  obtain ⟨hwg, hg1, hg2⟩ := hgp
  clear hc20
  go_enter Try.func3, Try.ntmps3
  go_wp2_with fail
  refine (works60_any _).mono ?_
  rintro e w1 ⟨rfl, b1⟩
  have hg := HG.out w1 b1
  go_wp2_with fail
  refine hg.mono ?_
  clear hg
  rintro e w2 ⟨bb, rfl, hbb, b2⟩
  have b2 := b1.trans (b2.mono b1.size)
  cases bb with
  | true =>
    clear hbb
    go_wp2_with fail
    refine (works60_any _).mono ?_
    rintro e w3 ⟨rfl, b3⟩
    have b3 := b2.trans (b3.mono b2.size)
    go_wp2
    go_ret
    exact ⟨(ret_eq (by first | rfl | (simp <;> omega))), b3⟩
  | false =>
    obtain ⟨hn, hsm⟩ := hbb rfl
    clear hbb
    by_cases hc : 10 < cl
    · have hd1 : decide ((10 : Int) < (cl : Int)) = true := by rw [decide_eq_true_eq]; omega
      have hd2 : decide (10 < cl) = true := by rw [decide_eq_true_eq]; omega
      clear hsm
      go_wp2_with fail
      refine (works60_any _).mono ?_
      rintro e w3 ⟨rfl, b3⟩
      have b3 := b2.trans (b3.mono b2.size)
      go_wp2
      go_ret
      exact ⟨(ret_eq (by first | rfl | (simp <;> omega))), b3⟩
    · have hd1 : decide ((10 : Int) < (cl : Int)) = false := by rw [decide_eq_false_iff_not]; omega
      have hd2 : decide (10 < cl) = false := by rw [decide_eq_false_iff_not]; omega
      have hc10 : cl ≤ 10 := by omega
      by_cases h0 : cl = 0
      · have hd3 : ((cl : Int) == 0) = true := by rw [beq_iff_eq]; omega
        clear hsm hc h0
        go_wp2_with fail
        refine (works60_any _).mono ?_
        rintro e w3 ⟨rfl, b3⟩
        have b3 := b2.trans (b3.mono b2.size)
        go_wp2
        go_ret
        exact ⟨(ret_eq (by first | rfl | (simp <;> omega))), b3⟩
      have hd3 : ((cl : Int) == 0) = false := by rw [beq_eq_false_iff_ne]; omega
      rw [HRL0.out] at hsm
      have HSM := Lib.hid (fun i k => Small.at hsm i k)
      have hts : ∀ i k, (atC rows i k).length ≤ 1000 := fun i k => by have := HSM.out i k; omega
      have HTS := Lib.hid hts
      have B2 := Lib.hid b2
      clear b1 b2 hts hsm hc
      obtain ⟨m, hm⟩ : ∃ m : Nat, cl = m + 1 := ⟨cl - 1, by omega⟩
      have hwm : IntKind.i64.wrap ((cl : Int) - 1) = (m : Int) := by rw [IntKind.wrap_i64]; omega
      obtain ⟨p, hp⟩ : ∃ p : Int, p = gp * (m : Int) := ⟨_, rfl⟩
      have hpb : 0 ≤ p ∧ p ≤ 180 := by
        rw [hp]
        exact ⟨Int.mul_nonneg (by omega) (by omega), Int.mul_le_mul (c := 20) (d := 9) hg2 (by omega) (by omega) (by omega)⟩
      have hwp : IntKind.i64.wrap (gp * (m : Int)) = p := by rw [← hp, IntKind.wrap_i64]; omega
      have HP := Lib.hid hp
      have HM := Lib.hid hm
      clear hp hm h0
      go_wp2
      go_loopw [7] (fun iv wr => ∃ i : Nat, i ≤ rl ∧ iv = .int .i64 i ∧ (∀ a, a < i → ∀ k, plainB (atC rows a k) = true) ∧ Below w2.heap.size w2 wr) (fun iv _ => rl - (intOf iv).toNat)
      case atStart => exact ⟨0, Nat.zero_le _, rfl, fun a ha => absurd ha (Nat.not_lt_zero _), Below.refl _ _⟩
      case round =>
        obtain ⟨i, hi, rfl, hpl, hbw⟩ := hrel
        obtain ⟨wi, hwi⟩ : ∃ wi, wi = wr := ⟨_, rfl⟩
        subst hwi
        have HPL := Lib.hid hpl
        have HBW := Lib.hid hbw
        clear hpl hbw
        by_cases hlt : i < rl
        · have g1 : decide ((i : Int) < (rl : Int)) = true := by rw [decide_eq_true_eq]; omega
          have g2 : decide (i < rl) = true := by rw [decide_eq_true_eq]; omega
          have hic : i < ca := by omega
          have hii : (i : Int) < (rl : Int) := by omega
          have hwi : IntKind.i64.wrap ((i : Int) + 1) = (i : Int) + 1 := by rw [IntKind.wrap_i64]; omega
          obtain ⟨b2, o2, e2, hb2, hz2, C2, q2, rv, hC2, hrv⟩ := (HV.out.below (B2.out.trans (HBW.out.mono B2.out.size))).spots.2.2 i (by rw [← HRL0.out]; exact hlt)
          subst e2 hC2
          have d1 : wi.cell? ⟨b2, o2 + i, none⟩ = some rv := by have := q2 0 (by decide); simpa [show rowsE.size = 1 from rfl] using this
          rw [show rows.getD i rowsE.zero = rows.getD i [] from rfl] at hrv
          obtain ⟨row, hrow⟩ : ∃ row, row = rows.getD i [] := ⟨_, rfl⟩
          have hat : ∀ k, atC rows i k = row.getD k [] := fun k => by rw [hrow]; rfl
          rw [← hrow] at hrv
          have hrm := hrv.max
          have HATR := Lib.hid hat
          obtain ⟨ar, cr, rfl⟩ := hrv.len
          have hcr := hrv.spots.2.1
          have HRV := Lib.hid hrv
          obtain ⟨rn, hrn⟩ : ∃ rn, rn = row.length := ⟨_, rfl⟩
          have HRN := Lib.hid hrn
          rw [← hrn] at hrm hcr HRV d1
          have HD1 := Lib.hid d1
          have HLB := Lib.hid hb2
          clear hrv hrow hat hrn q2 hz2 hb2
          go_wp2
          go_loopw [8] (fun kv wr => ∃ k : Nat, k ≤ rn ∧ kv = .int .i64 k ∧ (∀ j, j < k → plainB (atC rows i j) = true) ∧ Below wi.heap.size wi wr) (fun kv _ => rn - (intOf kv).toNat)
          case atStart => exact ⟨0, Nat.zero_le _, rfl, fun j hj => absurd hj (Nat.not_lt_zero _), Below.refl _ _⟩
          case round =>
            obtain ⟨k, hk, rfl, hsk, hbk⟩ := hrel
            obtain ⟨wj, hwj⟩ : ∃ wj, wj = wr := ⟨_, rfl⟩
            subst hwj
            have HSK := Lib.hid hsk
            have HBK := Lib.hid hbk
            have d2 := (hbk.cell (p := ⟨b2, o2 + i, none⟩) HLB.out).trans HD1.out
            clear hsk hbk
            by_cases hlk : k < rn
            · have k1 : decide ((k : Int) < (rn : Int)) = true := by rw [decide_eq_true_eq]; omega
              have k2 : decide (k < rn) = true := by rw [decide_eq_true_eq]; omega
              have hkc : k < cr := by omega
              have hkk : (k : Int) < (rn : Int) := by omega
              have hwk : IntKind.i64.wrap ((k : Int) + 1) = (k : Int) + 1 := by rw [IntKind.wrap_i64]; omega
              obtain ⟨b3, o3, e3, hb3, hz3, C3, q3, tv, hC3, htv⟩ := (HRV.out.below HBK.out).spots.2.2 k (by rw [← HRN.out]; exact hlk)
              subst e3 hC3
              have d3 : wj.cell? ⟨b3, o3 + k, none⟩ = some tv := by have := q3 0 (by decide); simpa [show rowE.size = 1 from rfl] using this
              have hpla := plain60_any _ tv (row.getD k []) wj htv (by rw [← HATR.out k]; exact HR.out i k) (by rw [← HATR.out k]; have := HTS.out i k; omega)
              rw [← HATR.out k] at hpla
              have HPA := Lib.hid hpla
              clear htv q3 hz3 hb3 hpla
              by_cases hbig : plainB (atC rows i k) = true
              · have HS := Lib.hid (show ∀ j, j < k + 1 → plainB (atC rows i j) = true from fun j hj => by
                  by_cases e : j = k
                  · subst e; exact hbig
                  · exact HSK.out j (by omega))
                rw [hbig] at HPA
                clear hbig
                go_wp2_with fail
                refine HPA.out.mono ?_
                rintro e w8 ⟨rfl, b8⟩
                have HB8 := Lib.hid (HBK.out.trans (b8.mono HBK.out.size))
                clear b8 d2 d3
                go_wp2
                go_roundw
                case rel => exact ⟨k + 1, by omega, by go_num, HS.out, HB8.out⟩
                case measure => simp [intOf] <;> omega
              · rw [Bool.not_eq_true] at hbig
                rw [hbig] at HPA
                clear hbig
                go_wp2_with fail
                refine HPA.out.mono ?_
                rintro e w8 ⟨rfl, b8⟩
                have HB8 := Lib.hid (B2.out.trans ((HBW.out.trans ((HBK.out.trans (b8.mono HBK.out.size)).mono HBW.out.size)).mono B2.out.size))
                clear b8 d2 d3
                go_wp2
                go_ret
                exact ⟨(ret_eq (by first | rfl | (simp <;> omega))), HB8.out⟩
            · have k1 : decide ((k : Int) < (rn : Int)) = false := by rw [decide_eq_false_iff_not]; omega
              have k2 : decide (k < rn) = false := by rw [decide_eq_false_iff_not]; omega
              obtain rfl : k = rn := by omega
              have HB := Lib.hid (HBW.out.trans (HBK.out.mono HBW.out.size))
              have HS := Lib.hid (show ∀ a, a < i + 1 → ∀ q, plainB (atC rows a q) = true from fun a ha q => by
                by_cases e : a = i
                · subst e
                  by_cases hq : q < k
                  · exact HSK.out q hq
                  · rw [HATR.out q, show row.getD q [] = [] from by simp [List.getD, List.getElem?_eq_none (show row.length ≤ q by rw [← HRN.out]; omega)]]
                    exact plain_nil
                · exact HPL.out a (by omega) q)
              go_wp2
              go_roundw
              case rel => exact ⟨i + 1, by omega, by go_num, HS.out, HB.out⟩
              case measure => simp [intOf] <;> omega
        · have g1 : decide ((i : Int) < (rl : Int)) = false := by rw [decide_eq_false_iff_not]; omega
          have g2 : decide (i < rl) = false := by rw [decide_eq_false_iff_not]; omega
          obtain rfl : i = rl := by omega
          have B5 := Lib.hid (B2.out.trans (HBW.out.mono B2.out.size))
          have hw := HTW.out wi B5.out (by omega) (by omega) HTS.out
          go_wp2_with fail
          refine hw.mono ?_
          clear hw
          rintro e w3 ⟨gw, rfl, hgw, hrow, b3⟩
          have HROW3 := Lib.hid hrow
          have B3 := Lib.hid (B5.out.trans (b3.mono B5.out.size))
          have HSB := Lib.hid (sumWd_bd rows cols HTS.out)
          clear hgw hrow b3
          go_wp2
          go_loopw [9, 11] (fun nv kv wr => ∃ (k : Nat) (s : Int), k ≤ cl ∧ kv = .int .i64 k ∧ nv = .int .i64 s ∧ s = p + sumWd rows cols k ∧ Below w3.heap.size w3 wr) (fun _ kv _ => cl - (intOf kv).toNat)
          case atStart => exact ⟨0, p, Nat.zero_le _, rfl, rfl, by rw [sumWd]; omega, Below.refl _ _⟩
          case round =>
            obtain ⟨k, s, hk, rfl, rfl, hs, hbk⟩ := hrel
            obtain ⟨wk, hwk⟩ : ∃ wk, wk = wr := ⟨_, rfl⟩
            subst hwk
            have HBK := Lib.hid hbk
            clear hbk
            by_cases hlk : k < cl
            · have k1 : decide ((k : Int) < (cl : Int)) = true := by rw [decide_eq_true_eq]; omega
              have k2 : decide (k < cl) = true := by rw [decide_eq_true_eq]; omega
              have hkk : (k : Int) < (cl : Int) := by omega
              have hwk : IntKind.i64.wrap ((k : Int) + 1) = (k : Int) + 1 := by rw [IntKind.wrap_i64]; omega
              have hwa := wids_at rows cols cl k (by rw [← HCL0.out]; exact hlk)
              rw [if_pos hlk] at hwa
              have d1 := (HBK.out.cell (p := ⟨gw, k, none⟩) (Has.lt HROW3.out)).trans (IRow.cell HROW3.out hwa)
              have hss : sumWd rows cols (k + 1) = sumWd rows cols k + widC rows k (cols.getD k (0, 0)).1 := rfl
              have hb1 := HSB.out k
              have hb2 := HSB.out (k + 1)
              obtain ⟨wd, hwd⟩ : ∃ wd, wd = widC rows k (cols.getD k (0, 0)).1 := ⟨_, rfl⟩
              rw [← hwd] at d1 hss
              have hws : IntKind.i64.wrap (s + wd) = s + wd := by rw [IntKind.wrap_i64]; omega
              have HS := Lib.hid (show s + wd = p + sumWd rows cols (k + 1) from by omega)
              clear hwa hss hb1 hb2 hwd hs
              go_wp2
              go_roundw
              case rel => exact ⟨k + 1, s + wd, by omega, by go_num, rfl, HS.out, HBK.out⟩
              case measure => simp [intOf] <;> omega
            · have k1 : decide ((k : Int) < (cl : Int)) = false := by rw [decide_eq_false_iff_not]; omega
              have k2 : decide (k < cl) = false := by rw [decide_eq_false_iff_not]; omega
              obtain rfl : k = cl := by omega
              have B6 := Lib.hid (B3.out.trans (HBK.out.mono B3.out.size))
              have HS := Lib.hid hs
              clear hs
              have hl := HTL.out gp wk B6.out (by omega) (by omega) HTS.out
              go_wp2_with fail
              refine hl.mono ?_
              clear hl
              rintro e w4 ⟨g, VS, rfl, hld, b4⟩
              have B4 := Lib.hid (B6.out.trans (b4.mono B6.out.size))
              have HLEN := Lib.hid (fun i => lineC_len rows cols gp i (fun k => HTS.out i k) k)
              have HCO := Lib.hid (show ∀ j, j < i → colsC (lineC rows cols gp j k) = s from fun j hj => by
                have h := (line_cols rows cols gp j ⟨hg1, hg2⟩ (fun q => HPL.out j hj q) HTS.out k).1
                rw [h, HM.out, lineW_sum, HS.out, HP.out, HM.out])
              have HLD := Lib.hid (show ∀ j, j < i → ∃ x, VS[j]? = some x ∧ w4.cell? ⟨g, j, none⟩ = some x ∧ g < w4.heap.size ∧ HeldE (intE .i32) (fun _ => True) w4 x (lineC rows cols gp j k) from fun j hj => by
                obtain ⟨x, e1, e2⟩ := hld.2.2.2.1 j hj
                rw [← HCL0.out] at e2
                exact ⟨x, e1, hld.2.1.cell j x e1, hld.2.1.lt, e2.zone (fun _ _ _ => trivial)⟩)
              clear hld b4
              go_wp2
              go_loopw [13] (fun iv wr => ∃ j : Nat, j ≤ i ∧ iv = .int .i64 j ∧ Below w4.heap.size w4 wr) (fun iv _ => i - (intOf iv).toNat)
              case atStart => exact ⟨0, Nat.zero_le _, rfl, Below.refl _ _⟩
              case round =>
                obtain ⟨j, hj, rfl, hbi⟩ := hrel
                obtain ⟨wq, hwq⟩ : ∃ wq, wq = wr := ⟨_, rfl⟩
                subst hwq
                have HBI := Lib.hid hbi
                clear hbi
                by_cases hltj : j < i
                · have j1 : decide ((j : Int) < (i : Int)) = true := by rw [decide_eq_true_eq]; omega
                  have j2 : decide (j < i) = true := by rw [decide_eq_true_eq]; omega
                  have hii : (j : Int) < (i : Int) := by omega
                  have hwj : IntKind.i64.wrap ((j : Int) + 1) = (j : Int) + 1 := by rw [IntKind.wrap_i64]; omega
                  obtain ⟨x, ex, cx, hgl, hx⟩ := HLD.out j hltj
                  have d1 := (HBI.out.cell (p := ⟨g, j, none⟩) hgl).trans cx
                  have hll := HLEN.out j
                  have hmc := mcols_any x (lineC rows cols gp j k) wq (hx.below HBI.out).ints (by omega)
                  rw [HCO.out j hltj] at hmc
                  have HMC := Lib.hid hmc
                  have hne : (s != s) = false := by simp
                  clear ex cx hgl hx hll hmc
                  go_wp2_with fail
                  refine HMC.out.mono ?_
                  rintro e w8 ⟨rfl, b8⟩
                  have HB8 := Lib.hid (HBI.out.trans (b8.mono HBI.out.size))
                  clear b8 d1
                  go_wp2
                  go_roundw
                  case rel => exact ⟨j + 1, by omega, by go_num, HB8.out⟩
                  case measure => simp [intOf] <;> omega
                · have j1 : decide ((j : Int) < (i : Int)) = false := by rw [decide_eq_false_iff_not]; omega
                  have j2 : decide (j < i) = false := by rw [decide_eq_false_iff_not]; omega
                  obtain rfl : j = i := by omega
                  have HF := Lib.hid (B4.out.trans (HBI.out.mono B4.out.size))
                  go_wp2
                  go_ret
                  exact ⟨(ret_eq (by first | rfl | (simp <;> omega))), HF.out⟩
theorem ok3 {rows : List (List (List Int))} (h : ∀ r ∈ rows, ∀ t ∈ r, (∀ n ∈ t, (Lit.int .i32 n).wf = true) ∧ t.length * 4 ≤ reachBytes) (i k : Nat) : bounds32 (atC rows i k) ∧ (atC rows i k).length ≤ 35184372088832 := by
  unfold atC
  by_cases hi : i < rows.length
  · by_cases hk : k < (rows.getD i []).length
    · have h1 : rows.getD i [] ∈ rows := by simp [List.getD, List.getElem?_eq_getElem hi]
      obtain ⟨row, hrow⟩ : ∃ row, row = rows.getD i [] := ⟨_, rfl⟩
      rw [← hrow] at h1 hk ⊢
      have h2 : row.getD k [] ∈ row := by simp [List.getD, List.getElem?_eq_getElem hk]
      have h3 := h row h1 _ h2
      exact ⟨bounds_of h3.1, by have := h3.2; unfold reachBytes at this; omega⟩
    · rw [show (rows.getD i []).getD k [] = [] from by simp only [List.getD, List.getElem?_eq_none (show (rows[i]?.getD []).length ≤ k from by have := hk; simp only [List.getD] at this; omega)]; rfl]
      exact ⟨fun i hi => absurd hi (by simp), by simp⟩
  · rw [show rows.getD i [] = [] from by simp [List.getD, List.getElem?_eq_none (show rows.length ≤ i by omega)]]
    exact ⟨fun i hi => absurd hi (by simp), by simp⟩
set_option maxRecDepth 100000 in
theorem walk {H : Type} {enc : TypeId × Value → H} (W : World) {base base' : Nat} (v : Value) {d : DataW H} {p : List MemPlace} (hv : Value.okWide Try.prog W .any base 22 v) (h : DataW.Trod enc Try.prog W 0 (fun _ => true) true 22 v d p) (gap : Int) (hgw : (Lit.int .i64 gap).wf = true)
    (u : Value) {d' : DataW H} {p' : List MemPlace} (hv' : Value.okWide Try.prog W .any base' 23 u) (h' : DataW.Trod enc Try.prog W 0 (fun _ => true) true 23 u d' p') (hz : ∀ z ∈ DataW.weightsEach Try.prog [22, 3, 23] [d, .lit (.int .i64 gap), d'], z ≤ reachBytes) : Calls Try.prog 3 #[v, .int .i64 gap, u] W (Yes W) := by
  have hE : OpensR Try.prog rowE _ 28 := opensR_slice Try.underlying28 (by kernel_rfl) (by decide) (opensR_int Try.underlying21 (by kernel_rfl))
  have hE2 : OpensR Try.prog (slE rowE) _ 26 := opensR_slice Try.underlying26 (by kernel_rfl) (by decide) hE
  have hC : OpensB Try.prog colE _ _ 36 := opensB_pair Try.underlying36 (by kernel_rfl) rfl rfl (opensB_int Try.underlying3 (by kernel_rfl)) (opensB_int Try.underlying3 (by kernel_rfl))
  obtain ⟨rows, hL, hok, _⟩ := opensR_arg Try.underlying22 (by kernel_rfl) (by decide) hE2 hv h (fun z h => hz z (by rw [DataW.weightsEach]; exact List.mem_append.2 (.inl h)))
  obtain ⟨cols, hM, _, _⟩ := opensB_arg Try.underlying23 (by kernel_rfl) (by decide) hC (seatBulk H) hv' h'
  have hb4 : Try.prog.bytesOf 21 = 4 := by kernel_rfl
  have ho := fun i k => ok3 (rows := rows) (fun r hr t ht => by have h := (hok r hr).1 t ht; rw [hb4] at h; exact h) i k
  exact walkH W v u rows cols gap hL hM (fun i k => (ho i k).1) (fun i k => (ho i k).2)

set_option maxRecDepth 100000 in
theorem lifted (os : Os) (started : os.Started) (H : Type) (enc : TypeId × Value → H) :
    ReturnsInHanded {} Try.checked os 3 .any (Rows.tableEvenSpec.pre6 enc Try.prog Try.f3 Rows.tableEvenRow.domain false) (Rows.tableEvenSpec.post enc Try.prog Try.f3 false true false false) := by
  refine law_frame_sized (C := Try.checked) (tb := 4) (by kernel_rfl) started (by kernel_rfl) Try.func3 (by kernel_rfl) (by kernel_rfl) Try.underlying4 rfl
    (by rw [Try.params3]; intro t ht; simp at ht; rcases ht with rfl | rfl | rfl <;> exact ⟨by kernel_rfl, of_decide_eq_true (by kernel_rfl)⟩)
    (by rw [Try.params3]; intro ds hd; match ds, hd with | [_, _, _], _ => rfl)
    (ChangeSpec.witness6 (enc := enc) (C := Try.checked) false ⟨#[], #[.slice none 0 0, .int .i64 0, .slice none 0 0], []⟩ 8 (by kernel_rfl) (by kernel_rfl) (by kernel_rfl) (by kernel_rfl)) ?_
  intro W base args ds before hval hA hz
  rw [Try.params3] at hA hval hz
  obtain ⟨v0, vs0, d0, ds0, p0, q0, hargs, rfl, rfl, h0, r0⟩ := trodAll_cons hA
  obtain ⟨v1, vs1, d1, ds1, p1, q1, rfl, rfl, rfl, h1, r1⟩ := trodAll_cons r0
  obtain ⟨v2, vs2, d2, ds2, p2, q2, rfl, rfl, rfl, h2, r2⟩ := trodAll_cons r1
  obtain ⟨rfl, rfl, rfl⟩ := trodAll_nil r2
  obtain rfl : args = #[v0, v1, v2] := by cases args; simp_all
  obtain ⟨x1, rfl, rfl, rfl, wx1⟩ := open_int Try.underlying3 (hval 1 3 v1 rfl rfl) h1
  exact walk W v0 (hval 0 22 v0 rfl rfl) h0 x1 wx1 v2 (hval 2 23 v2 rfl rfl) h2 hz

theorem proved : Rows.TableEvenSaid :=
  OpenClaim.holds_of_wide 3 Try.f3 rfl rfl rfl rfl rfl rfl rfl ⟨rfl, rfl, rfl, rfl, rfl⟩ rfl rfl rfl rfl rfl (by kernel_rfl) Try.func3 (by kernel_rfl)
    (of_decide_eq_true (by kernel_rfl)) (by unfold Func.isWrapper; first | (rw [if_pos (by decide +kernel)]; kernel_rfl) | (rw [if_neg (by decide +kernel)]; exact ⟨rfl, rfl⟩))
    (fun os started H enc _ => lifted os started H enc)
#print axioms proved

end Go.Proofs.Ytkpmmkokfllafaa.lawTableEven
