/- linotypelaw60.great. -/
import Derived.Test.YtkpmmkokfllafaaMg10
namespace Go.Proofs.Ytkpmmkokfllafaa
open Go.RowKit Go.ChangeShapes Go.WideShapes
attribute [local go_sem] Oper.semAt_some
/-- No table that is told to be too much has more. -/
def Small (rows : List (List (List Int))) (n : Nat) : Prop := ∀ i, i < n → (rows.getD i []).length ≤ 20 ∧ ∀ k, (atC rows i k).length ≤ 300
theorem Small.at {rows : List (List (List Int))} (h : Small rows rows.length) (i k : Nat) : (atC rows i k).length ≤ 300 := by
  by_cases hi : i < rows.length
  · exact (h i hi).2 k
  · unfold atC
    rw [show rows.getD i [] = [] from by simp [List.getD, List.getElem?_eq_none (show rows.length ≤ i by omega)]]
    simp
set_option maxRecDepth 100000 in
set_option maxHeartbeats 4000000 in
theorem great60_any (Z : Zone) (v : Value) (rows : List (List (List Int))) (w : World) (hv : HeldE rowsE Z w v rows) (ht : ∀ i k, (atC rows i k).length ≤ 35184372088832) : Calls Try.prog 5 #[v] w (fun e w' => ∃ b, e = .returned (.bool b) ∧ (b = false → rows.length ≤ 20 ∧ Small rows rows.length) ∧ Below w.heap.size w w') := by
  have hmax := hv.max
  obtain ⟨ao, ca, rfl⟩ := hv.len
  have HV := Lib.hid hv
  have HT := Lib.hid ht
  have hcap1 := hv.spots.2.1
  obtain ⟨rl, hrl⟩ : ∃ rl, rl = rows.length := ⟨_, rfl⟩
  have HRL := Lib.hid hrl
  rw [← hrl] at hmax hcap1 HV ⊢
  clear hv ht hrl
  go_enter Try.func5, Try.ntmps5
  go_wp2
  go_loopw [3, 4] (fun nv iv wr => ∃ (i : Nat) (n : Int), i ≤ rl ∧ i ≤ 30 ∧ iv = .int .i64 i ∧ nv = .int .i64 n ∧ 0 ≤ n ∧ n ≤ 300 ∧ Small rows i ∧ Below w.heap.size w wr) (fun _ iv _ => 30 - (intOf iv).toNat)
  case atStart => exact ⟨0, 0, Nat.zero_le _, by omega, rfl, rfl, by omega, by omega, fun i hi => absurd hi (Nat.not_lt_zero _), Below.refl _ _⟩
  case round =>
    obtain ⟨i, n, hi, hi30, rfl, rfl, hn0, hn1, hsm, hbw⟩ := hrel
    obtain ⟨wi, hwi⟩ : ∃ wi, wi = wr := ⟨_, rfl⟩
    subst hwi
    have HSM := Lib.hid hsm
    have HBW := Lib.hid hbw
    clear hsm hbw
    by_cases hlt : i < rl
    · have g1 : decide ((i : Int) < (rl : Int)) = true := by rw [decide_eq_true_eq]; omega
      have g2 : decide (i < rl) = true := by rw [decide_eq_true_eq]; omega
      by_cases h30 : i < 30
      · have g3 : decide ((i : Int) < 30) = true := by rw [decide_eq_true_eq]; omega
        have g4 : decide (i < 30) = true := by rw [decide_eq_true_eq]; omega
        have hic : i < ca := by omega
        have hii : (i : Int) < (rl : Int) := by omega
        have hwi : IntKind.i64.wrap ((i : Int) + 1) = (i : Int) + 1 := by rw [IntKind.wrap_i64]; omega
        obtain ⟨b2, o2, e2, hb2, hz2, C2, q2, rv, hC2, hrv⟩ := (HV.out.below HBW.out).spots.2.2 i (by rw [← HRL.out]; exact hlt)
        subst e2 hC2
        have d1 : wi.cell? ⟨b2, o2 + i, none⟩ = some rv := by have := q2 0 (by decide); simpa [show rowsE.size = 1 from rfl] using this
        rw [show rows.getD i rowsE.zero = rows.getD i [] from rfl] at hrv
        obtain ⟨row, hrow⟩ : ∃ row, row = rows.getD i [] := ⟨_, rfl⟩
        have hat : ∀ k, atC rows i k = row.getD k [] := fun k => by rw [hrow]; rfl
        rw [← hrow] at hrv
        have hrm := hrv.max
        have HROW := Lib.hid hrow
        have HATR := Lib.hid hat
        obtain ⟨ar, cr, rfl⟩ := hrv.len
        have hcr := hrv.spots.2.1
        have HRV := Lib.hid hrv
        have HT2 := Lib.hid (fun k => HT.out i k)
        obtain ⟨rn, hrn⟩ : ∃ rn, rn = row.length := ⟨_, rfl⟩
        have HRN := Lib.hid hrn
        rw [← hrn] at hrm hcr HRV d1
        have HD1 := Lib.hid d1
        have HLB := Lib.hid hb2
        clear hrv hrow hat hrn q2 hz2 hb2
        go_wp2
        go_loopw [3, 5] (fun nv kv wr => ∃ (k : Nat) (n : Int), k ≤ rn ∧ k ≤ 30 ∧ kv = .int .i64 k ∧ nv = .int .i64 n ∧ 0 ≤ n ∧ n ≤ 300 ∧ (∀ j, j < k → (atC rows i j).length ≤ 300) ∧ Below wi.heap.size wi wr) (fun _ kv _ => 30 - (intOf kv).toNat)
        case atStart => exact ⟨0, n, Nat.zero_le _, by omega, rfl, rfl, hn0, hn1, fun j hj => absurd hj (Nat.not_lt_zero _), Below.refl _ _⟩
        case round =>
          obtain ⟨k, m, hk, hk30, rfl, rfl, hm0, hm1, hsk, hbk⟩ := hrel
          obtain ⟨wj, hwj⟩ : ∃ wj, wj = wr := ⟨_, rfl⟩
          subst hwj
          have HSK := Lib.hid hsk
          have HBK := Lib.hid hbk
          have d2 := (hbk.cell (p := ⟨b2, o2 + i, none⟩) HLB.out).trans HD1.out
          clear hsk hbk
          by_cases hlk : k < rn
          · have k1 : decide ((k : Int) < (rn : Int)) = true := by rw [decide_eq_true_eq]; omega
            have k2 : decide (k < rn) = true := by rw [decide_eq_true_eq]; omega
            by_cases hk3 : k < 30
            · have k3 : decide ((k : Int) < 30) = true := by rw [decide_eq_true_eq]; omega
              have k4 : decide (k < 30) = true := by rw [decide_eq_true_eq]; omega
              have hkc : k < cr := by omega
              have hkk : (k : Int) < (rn : Int) := by omega
              have hwk : IntKind.i64.wrap ((k : Int) + 1) = (k : Int) + 1 := by rw [IntKind.wrap_i64]; omega
              obtain ⟨b3, o3, e3, hb3, hz3, C3, q3, tv, hC3, htv⟩ := (HRV.out.below HBK.out).spots.2.2 k (by rw [← HRN.out]; exact hlk)
              subst e3 hC3
              have d3 : wj.cell? ⟨b3, o3 + k, none⟩ = some tv := by have := q3 0 (by decide); simpa [show rowE.size = 1 from rfl] using this
              have hat := HATR.out k
              have htl := HT2.out k
              rw [hat] at htl
              obtain ⟨at3, ct3, rfl⟩ := htv.len
              rw [show row.getD k rowE.zero = row.getD k [] from rfl] at d3
              obtain ⟨tn, htn⟩ : ∃ tn, tn = (row.getD k []).length := ⟨_, rfl⟩
              rw [← htn] at d3 htl
              have hwn : IntKind.i64.wrap (m + (tn : Int)) = m + (tn : Int) := by rw [IntKind.wrap_i64]; omega
              have HTN := Lib.hid (show tn = (atC rows i k).length from by rw [hat]; exact htn)
              clear htv q3 hz3 hb3 hat htn
              by_cases hbig : 300 < m + (tn : Int)
              · have h300 : decide ((300 : Int) < m + (tn : Int)) = true := by rw [decide_eq_true_eq]; exact hbig
                have HB := Lib.hid (HBW.out.trans (HBK.out.mono HBW.out.size))
                clear hbig
                go_wp2
                go_ret
                exact ⟨true, (ret_eq (by first | rfl | (simp <;> omega))), fun e => by (cases e), HB.out⟩
              · have h300 : decide ((300 : Int) < m + (tn : Int)) = false := by rw [decide_eq_false_iff_not]; exact hbig
                have HQ := Lib.hid (show 0 ≤ m + (tn : Int) ∧ m + (tn : Int) ≤ 300 from by omega)
                have HS := Lib.hid (show ∀ j, j < k + 1 → (atC rows i j).length ≤ 300 from fun j hj => by
                  by_cases e : j = k
                  · subst e; rw [← HTN.out]; omega
                  · exact HSK.out j (by omega))
                clear hbig
                go_wp2
                go_roundw
                case rel => exact ⟨k + 1, m + (tn : Int), by omega, by omega, by go_num, rfl, HQ.out.1, HQ.out.2, HS.out, HBK.out⟩
                case measure => simp [intOf] <;> omega
            · have k3 : decide ((k : Int) < 30) = false := by rw [decide_eq_false_iff_not]; omega
              have k4 : decide (k < 30) = false := by rw [decide_eq_false_iff_not]; omega
              have k5 : decide ((20 : Int) < (rn : Int)) = true := by rw [decide_eq_true_eq]; omega
              have k6 : decide (20 < rn) = true := by rw [decide_eq_true_eq]; omega
              have HB := Lib.hid (HBW.out.trans (HBK.out.mono HBW.out.size))
              go_wp2
              go_ret
              exact ⟨true, (ret_eq (by first | rfl | (simp <;> omega))), fun e => by (cases e), HB.out⟩
          · have k1 : decide ((k : Int) < (rn : Int)) = false := by rw [decide_eq_false_iff_not]; omega
            have k2 : decide (k < rn) = false := by rw [decide_eq_false_iff_not]; omega
            obtain rfl : k = rn := by omega
            have HB := Lib.hid (HBW.out.trans (HBK.out.mono HBW.out.size))
            by_cases h20 : 20 < k
            · have k5 : decide ((20 : Int) < (k : Int)) = true := by rw [decide_eq_true_eq]; omega
              have k6 : decide (20 < k) = true := by rw [decide_eq_true_eq]; omega
              go_wp2
              go_ret
              exact ⟨true, (ret_eq (by first | rfl | (simp <;> omega))), fun e => by (cases e), HB.out⟩
            · have k5 : decide ((20 : Int) < (k : Int)) = false := by rw [decide_eq_false_iff_not]; omega
              have k6 : decide (20 < k) = false := by rw [decide_eq_false_iff_not]; omega
              have HS := Lib.hid (show Small rows (i + 1) from fun j hj => by
                by_cases e : j = i
                · subst e
                  refine ⟨by rw [← HROW.out, ← HRN.out]; omega, fun q => ?_⟩
                  by_cases hq : q < k
                  · exact HSK.out q hq
                  · rw [HATR.out q, show row.getD q [] = [] from by simp [List.getD, List.getElem?_eq_none (show row.length ≤ q by rw [← HRN.out]; omega)]]
                    simp
                · exact HSM.out j (by omega))
              go_wp2
              go_roundw
              case rel => exact ⟨i + 1, m, by omega, by omega, by go_num, rfl, hm0, hm1, HS.out, HB.out⟩
              case measure => simp [intOf] <;> omega
      · have g3 : decide ((i : Int) < 30) = false := by rw [decide_eq_false_iff_not]; omega
        have g4 : decide (i < 30) = false := by rw [decide_eq_false_iff_not]; omega
        have g5 : decide ((20 : Int) < (rl : Int)) = true := by rw [decide_eq_true_eq]; omega
        have g6 : decide (20 < rl) = true := by rw [decide_eq_true_eq]; omega
        go_wp2
        go_ret
        exact ⟨true, (ret_eq (by first | rfl | (simp <;> omega))), fun e => by (cases e), HBW.out⟩
    · have g1 : decide ((i : Int) < (rl : Int)) = false := by rw [decide_eq_false_iff_not]; omega
      have g2 : decide (i < rl) = false := by rw [decide_eq_false_iff_not]; omega
      obtain rfl : i = rl := by omega
      have HS := Lib.hid (show Small rows rows.length from by rw [← HRL.out]; exact HSM.out)
      by_cases h20 : 20 < i
      · have k5 : decide ((20 : Int) < (i : Int)) = true := by rw [decide_eq_true_eq]; omega
        have k6 : decide (20 < i) = true := by rw [decide_eq_true_eq]; omega
        go_wp2
        go_ret
        exact ⟨true, (ret_eq (by first | rfl | (simp <;> omega))), fun e => by (cases e), HBW.out⟩
      · have k5 : decide ((20 : Int) < (i : Int)) = false := by rw [decide_eq_false_iff_not]; omega
        have k6 : decide (20 < i) = false := by rw [decide_eq_false_iff_not]; omega
        have HE := Lib.hid (show i ≤ 20 from by omega)
        go_wp2
        go_ret
        exact ⟨false, (ret_eq (by first | rfl | (simp <;> omega))), fun _ => ⟨HE.out, by first | exact HS.out | (rw [HRL.out]; exact HS.out)⟩, HBW.out⟩
end Go.Proofs.Ytkpmmkokfllafaa
