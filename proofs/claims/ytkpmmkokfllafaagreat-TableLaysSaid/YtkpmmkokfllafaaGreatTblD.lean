/- The reference's Line (60). -/
import Derived.Test.YtkpmmkokfllafaaGreatTblB
import Derived.Test.YtkpmmkokfllafaaGreatMg9
namespace Go.Proofs.YtkpmmkokfllafaaGreat
open Go.RowKit Go.ChangeShapes Go.WideShapes
attribute [local go_sem] Oper.semAt_some
def gkC (gap : Int) (k : Nat) : Nat := if k = 0 then 0 else (gapC gap).toNat
theorem blC_eq (gap : Int) (k : Nat) : blC gap k = List.replicate (gkC gap k) 32 := by
  unfold blC gkC
  by_cases h : k = 0
  · rw [if_pos h, if_pos h]; rfl
  · rw [if_neg h, if_neg h]
    have h1 := ahead_le 0 (lackC (gapC gap) [])
    have h2 : lackC (gapC gap) [] = (gapC gap).toNat := by
      unfold lackC wc gapC
      rw [show colsC [] = 0 from by decide +kernel]
      omega
    rw [← h2]
    unfold padC
    rw [List.nil_append, List.replicate_append_replicate]
    congr 1
    omega
theorem gk_bd (gap : Int) (k : Nat) : gkC gap k ≤ 1024 := by
  unfold gkC gapC
  split <;> omega
set_option maxRecDepth 100000 in
set_option maxHeartbeats 6000000 in
theorem rline_any (v mv sv : Value) (rows : List (List (List Int))) (cols : List (Int × Int)) (i : Nat) (gap : Int) (w : World) (hv : HeldE rowsE (fun b => b < w.heap.size) w v rows) (hm : HeldE (intE .i64) (fun b => b < w.heap.size) w mv (cols.map Prod.fst)) (hs : HeldE (intE .i64) (fun b => b < w.heap.size) w sv (cols.map Prod.snd)) (hi : i < rows.length) (hn : rows.length ≤ 1000) (hc : cols.length ≤ 1000) (ht : ∀ i k, (atC rows i k).length ≤ 1000) (hr : ∀ i k, bounds32 (atC rows i k)) : Calls Tryz.prog 10 #[v, .int .i64 (i : Int), .int .i64 gap, mv, sv] w (CatOk w (lineC rows cols gap i cols.length)) := by
  obtain ⟨ao, ca, rfl⟩ := hv.len
  obtain ⟨mo, mc, rfl⟩ := hm.len
  obtain ⟨so, sc, rfl⟩ := hs.len
  have hcapm := hm.spots.2.1
  have hcaps := hs.spots.2.1
  rw [List.length_map] at hm hs hcapm hcaps ⊢
  rw [List.length_map]
  have HV := Lib.hid hv
  have HM := Lib.hid hm
  have HS := Lib.hid hs
  have HT := Lib.hid ht
  have HR := Lib.hid hr
  have HI := Lib.hid (And.intro hi hn)
  have HLL := Lib.hid (fun k => lineC_len rows cols gap i (fun k => ht i k) k)
  have HAT := Lib.hid (fun k (hk : k ≤ 1000000) => rat_any _ _ rows i k w hv hi hk (by omega))
  have HWD := Lib.hid (fun k most (w' : World) (hb : Below w.heap.size w w') (hk : k ≤ 1000000) => rwid_any _ _ rows k most w' (hv.below hb) hk (by omega) ht hr)
  obtain ⟨rl, hrl⟩ : ∃ rl, rl = rows.length := ⟨_, rfl⟩
  rw [← hrl] at HAT HWD ⊢
  obtain ⟨cl, hcl⟩ : ∃ cl, cl = cols.length := ⟨_, rfl⟩
  have HCL := Lib.hid hcl
  rw [← hcl] at hc hcapm hcaps HM HS ⊢
  clear hv hm hs ht hr hi hn hrl hcl
  go_enter Tryz.func10, Tryz.ntmps10
  go_wp2
  go_loopw [11, 12] (fun ov kv wr => ∃ k : Nat, k ≤ cl ∧ kv = .int .i64 k ∧ OwnE (intE .i32) (fun _ => True) wr w.heap.size 21 ov (lineC rows cols gap i k) ∧ Below w.heap.size w wr) (fun _ kv _ => cl - (intOf kv).toNat)
  case atStart => exact ⟨0, Nat.zero_le _, rfl, OwnE.nil _ _ _ _ _, Below.refl _ _⟩
  case round =>
    obtain ⟨k, hk, rfl, hown, hbw⟩ := hrel
    obtain ⟨ok, hok⟩ : ∃ ok, ok = u11 := ⟨_, rfl⟩
    rw [← hok] at hown ⊢
    obtain ⟨wk, hwk⟩ : ∃ wk, wk = wr := ⟨_, rfl⟩
    subst hwk
    have HOK := Lib.hid hown
    have HBK := Lib.hid hbw
    clear hok hown hbw
    by_cases hltk : k < cl
    · have hki : (k : Int) < (cl : Int) := by omega
      have hg : decide ((k : Int) < (cl : Int)) = true := by rw [decide_eq_true_eq]; omega
      have hgn : decide (k < cl) = true := by rw [decide_eq_true_eq]; omega
      have hkm : k < mc := by omega
      have hks : k < sc := by omega
      have hwk : IntKind.i64.wrap ((k : Int) + 1) = (k : Int) + 1 := by rw [IntKind.wrap_i64]; omega
      obtain ⟨mb, mf, e1, hb1, hz1, C1, q1, hr1⟩ := HM.out.spots.2.2 k (by rw [List.length_map, ← HCL.out]; exact hltk)
      subst e1
      have hC1 : C1 = [.int .i64 ((cols.map Prod.fst).getD k 0)] := hr1
      have cm := q1 0 (by decide)
      rw [hC1] at cm
      obtain ⟨sb, sf, e2, hb2, hz2, C2, q2, hr2⟩ := HS.out.spots.2.2 k (by rw [List.length_map, ← HCL.out]; exact hltk)
      subst e2
      have hC2 : C2 = [.int .i64 ((cols.map Prod.snd).getD k 0)] := hr2
      have cs := q2 0 (by decide)
      rw [hC2] at cs
      rw [show (cols.map Prod.fst).getD k 0 = (cols.getD k (0, 0)).1 from by simp [List.getD, List.getElem?_map, List.getElem?_eq_getElem (show k < cols.length by rw [← HCL.out]; exact hltk)]] at cm
      rw [show (cols.map Prod.snd).getD k 0 = (cols.getD k (0, 0)).2 from by simp [List.getD, List.getElem?_map, List.getElem?_eq_getElem (show k < cols.length by rw [← HCL.out]; exact hltk)]] at cs
      have CM := Lib.hid (show w.cell? ⟨mb, mf + k, none⟩ = some (.int .i64 (cols.getD k (0, 0)).1) from by simpa [show (intE .i64).size = 1 from rfl] using cm)
      have CS := Lib.hid (show w.cell? ⟨sb, sf + k, none⟩ = some (.int .i64 (cols.getD k (0, 0)).2) from by simpa [show (intE .i64).size = 1 from rfl] using cs)
      have HBB := Lib.hid (And.intro hb1 hb2)
      have hnx : lineC rows cols gap i (k + 1) = lineC rows cols gap i k ++ blC gap k ++ fitC (widC rows k (cols.getD k (0, 0)).1) (cols.getD k (0, 0)).2 (atC rows i k) [] := rfl
      rw [blC_eq] at hnx
      have hfl : (fitC (widC rows k (cols.getD k (0, 0)).1) (cols.getD k (0, 0)).2 (atC rows i k) []).length ≤ 2024 := fitK_len rows cols i k (HT.out i k)
      clear q1 q2 hr1 hr2 hC1 hC2 cm cs hz1 hz2 hb1 hb2
      obtain ⟨⟨most, side⟩, hms⟩ : ∃ y, y = cols.getD k (0, 0) := ⟨_, rfl⟩
      rw [← hms] at hnx hfl CM CS
      simp only at hnx hfl
      have HWID := Lib.hid (fun w' hb => HWD.out k most w' hb (by omega))
      obtain ⟨wd, hwd⟩ : ∃ wd, wd = widC rows k most := ⟨_, rfl⟩
      rw [← hwd] at hnx hfl HWID
      have HFIT := Lib.hid (fun (xv : Value) (w' : World) (hx : HeldE (intE .i32) (fun b => b < w.heap.size) w' xv (atC rows i k)) => rjfit_any xv (.slice none 0 0) (atC rows i k) [] wd side w' (hx.zone fun b hb _ => hb) (HeldE.nil _ _ _) (by have := HT.out i k; omega) (by simp) (HR.out i k) (fun i hi => absurd hi (by simp)))
      obtain ⟨FT, hFT⟩ : ∃ FT, FT = fitC wd side (atC rows i k) [] := ⟨_, rfl⟩
      rw [← hFT] at hnx hfl HFIT
      have HFL := Lib.hid hfl
      have hll := HLL.out k
      obtain ⟨L0, hL0⟩ : ∃ L0, L0 = lineC rows cols gap i k := ⟨_, rfl⟩
      rw [← hL0] at hll hnx HOK
      have HNX := Lib.hid hnx
      have HL0 := Lib.hid (show L0.length ≤ 4000000 from by omega)
      have hgb := gk_bd gap k
      have hgd : gkC gap k = if k = 0 then 0 else (gapC gap).toNat := rfl
      obtain ⟨gk, hgk⟩ : ∃ gk, gk = gkC gap k := ⟨_, rfl⟩
      rw [← hgk] at HNX hgb hgd
      have HGB := Lib.hid hgb
      have HGD := Lib.hid hgd
      obtain ⟨tv, htv, hat⟩ := HAT.out k (by omega)
      have HTV := Lib.hid htv
      have HATK := Lib.hid hat
      clear hms hwd hFT hfl hll hL0 hnx hgb hgd hgk htv hat
      go_wp2
      go_loopw [11, 13] (fun ov bv wr => ∃ b : Nat, b ≤ gk ∧ bv = .int .i64 b ∧ OwnE (intE .i32) (fun _ => True) wr w.heap.size 21 ov (L0 ++ List.replicate b 32) ∧ Below w.heap.size w wr) (fun _ bv _ => gk - (intOf bv).toNat)
      case atStart => exact ⟨0, Nat.zero_le _, rfl, by rw [List.replicate_zero, List.append_nil]; exact HOK.out, HBK.out⟩
      case round =>
        obtain ⟨b, hb, rfl, hown, hbw⟩ := hrel
        obtain ⟨ov, hov⟩ : ∃ ov, ov = u11 := ⟨_, rfl⟩
        rw [← hov] at hown ⊢
        obtain ⟨wb, hwb⟩ : ∃ wb, wb = wr := ⟨_, rfl⟩
        subst hwb
        have HO := Lib.hid hown
        have HBW := Lib.hid hbw
        clear hov hown hbw
        have hgd := HGD.out
        by_cases hltb : b < gk
        · have hk0 : k ≠ 0 := fun e => by rw [if_pos e] at hgd; omega
          rw [if_neg hk0] at hgd
          unfold gapC at hgd
          have g1 : decide ((b : Int) < gap) = true := by rw [decide_eq_true_eq]; omega
          have g2 : decide ((b : Int) < 1024) = true := by rw [decide_eq_true_eq]; omega
          have g3 : decide ((0 : Int) < (k : Int)) = true := by rw [decide_eq_true_eq]; omega
          have g4 : decide (b < 1024) = true := by rw [decide_eq_true_eq]; omega
          have g5 : decide (0 < k) = true := by rw [decide_eq_true_eq]; omega
          have hwb : IntKind.i64.wrap ((b : Int) + 1) = (b : Int) + 1 := by rw [IntKind.wrap_i64]; have := HGB.out; omega
          have b0 := (Below.refl wb.heap.size wb).alloc (Nat.le_refl _) (.cells [.int .i32 32].toArray 21)
          have HO1 := Lib.hid (HO.out.below b0)
          have HB1 := Lib.hid (HBW.out.trans (b0.mono HBW.out.size))
          have HU := Lib.hid (show HeldE (intE .i32) (fun b => True ∧ ov.ownBlock ≠ some b) (wb.alloc (.cells [.int .i32 32].toArray 21)) (.slice (some ⟨wb.heap.size, 0, none⟩) 1 1) [32] from heldE_one (E := intE .i32) (Y := fun _ => False) [.int .i32 32] 32 rfl (fun _ _ h => h.elim) ⟨trivial, fun e => by have := (HO.out.lt _ e).2; omega⟩)
          have HLB := Lib.hid (show (L0 ++ List.replicate b (32 : Int)).length ≤ 5000000 from by have := HL0.out; have := HGB.out; rw [List.length_append, List.length_replicate]; omega)
          clear b0 hk0 hgd
          go_wp2_with (at_builtin; refine wpList_append_e (E := intE .i32) (Z := fun _ => True) rfl (.tmp 33) (.tmp 34) 34 rfl (.int .i32 0) 4 Tryz.underlying34 info_tT rfl (by decide) rfl rfl HO1.out HU.out (by simp only [List.length_singleton]; have := HLB.out; omega) (by simp only [List.length_singleton]; have := HLB.out; omega) HB1.out.size ?_)
          intro v2 w2 ho2 b2 _ _
          try rw [List.append_assoc] at ho2
          rw [show List.replicate b (32 : Int) ++ [32] = List.replicate (b + 1) 32 from (List.replicate_succ' ..).symm] at ho2
          have HF1 := Lib.hid ho2
          have HF2 := Lib.hid (HB1.out.trans b2)
          clear ho2 b2
          go_wp2
          go_roundw
          case rel => exact ⟨b + 1, by omega, by go_num, HF1.out, HF2.out⟩
          case measure => simp [intOf] <;> omega
        · obtain rfl : b = gk := by omega
          have HLA := Lib.hid (show (L0 ++ List.replicate b (32 : Int)).length ≤ 5000000 from by have := HL0.out; have := HGB.out; rw [List.length_append, List.length_replicate]; omega)
          obtain ⟨L1, hL1⟩ : ∃ L1, L1 = L0 ++ List.replicate b (32 : Int) := ⟨_, rfl⟩
          rw [← hL1] at HLA HO
          have HL1 := Lib.hid hL1
          have hb9 := HBW.out
          have CMW := Lib.hid ((hb9.cell (p := ⟨mb, mf + k, none⟩) HBB.out.1).trans CM.out)
          have CSW := Lib.hid ((hb9.cell (p := ⟨sb, sf + k, none⟩) HBB.out.2).trans CS.out)
          have HBB9 := Lib.hid (show mb < wb.heap.size ∧ sb < wb.heap.size from ⟨Nat.lt_of_lt_of_le HBB.out.1 hb9.size, Nat.lt_of_lt_of_le HBB.out.2 hb9.size⟩)
          have HLT := Lib.hid HO.out.lt
          clear hL1 hb9
          by_cases hk0 : k = 0
          · rw [if_pos hk0] at hgd
            have g3 : decide ((0 : Int) < (k : Int)) = false := by rw [decide_eq_false_iff_not]; omega
            have g5 : decide (0 < k) = false := by rw [decide_eq_false_iff_not]; omega
            have g2 : decide ((b : Int) < 1024) = true := by rw [decide_eq_true_eq]; omega
            have g4 : decide (b < 1024) = true := by rw [decide_eq_true_eq]; omega
            by_cases hga : (b : Int) < gap
            · have g1 : decide ((b : Int) < gap) = true := by rw [decide_eq_true_eq]; exact hga
              clear hk0 hgd hga
              go_wp2
              obtain ⟨Erga, hErga⟩ : ∃ EE : Nat → Value → World → Prop, EE = fun jj xx ww => match jj with
                  | 0 => xx = ov
                  | 1 => xx = .slice ao rl ca
                  | 2 => xx = .int .i64 (i : Int)
                  | 3 => xx = .int .i64 (k : Int)
                  | 4 => xx = tv
                  | 5 => xx = .slice ao rl ca
                  | 6 => xx = .int .i64 (k : Int)
                  | 7 => xx = .slice (some ⟨mb, mf, none⟩) cl mc
                  | 8 => xx = .int .i64 (k : Int)
                  | 9 => xx = .pointer (some ⟨mb, mf + k, none⟩)
                  | 10 => xx = .int .i64 most
                  | 11 => xx = .int .i64 wd
                  | 12 => xx = .slice (some ⟨sb, sf, none⟩) cl sc
                  | 13 => xx = .int .i64 (k : Int)
                  | 14 => xx = .pointer (some ⟨sb, sf + k, none⟩)
                  | 15 => xx = .int .i64 side
                  | 16 => (fun x w' => HeldE (intE .i32) (fun b => wb.heap.size ≤ b) w' x FT) xx ww
                  | 17 => (fun x w' => OwnE (intE .i32) (fun _ => True) w' w.heap.size 21 x (L1 ++ FT)) xx ww
                  | 18 => (fun x w' => OwnE (intE .i32) (fun _ => True) w' w.heap.size 21 x (L1 ++ FT)) xx ww
                  | _ => True := ⟨_, rfl⟩
              have erga0 : ∀ xx ww, Erga 0 xx ww = (xx = ov) := fun xx ww => congrFun (congrFun (congrFun hErga 0) xx) ww
              have erga1 : ∀ xx ww, Erga 1 xx ww = (xx = .slice ao rl ca) := fun xx ww => congrFun (congrFun (congrFun hErga 1) xx) ww
              have erga2 : ∀ xx ww, Erga 2 xx ww = (xx = .int .i64 (i : Int)) := fun xx ww => congrFun (congrFun (congrFun hErga 2) xx) ww
              have erga3 : ∀ xx ww, Erga 3 xx ww = (xx = .int .i64 (k : Int)) := fun xx ww => congrFun (congrFun (congrFun hErga 3) xx) ww
              have erga4 : ∀ xx ww, Erga 4 xx ww = (xx = tv) := fun xx ww => congrFun (congrFun (congrFun hErga 4) xx) ww
              have erga5 : ∀ xx ww, Erga 5 xx ww = (xx = .slice ao rl ca) := fun xx ww => congrFun (congrFun (congrFun hErga 5) xx) ww
              have erga6 : ∀ xx ww, Erga 6 xx ww = (xx = .int .i64 (k : Int)) := fun xx ww => congrFun (congrFun (congrFun hErga 6) xx) ww
              have erga7 : ∀ xx ww, Erga 7 xx ww = (xx = .slice (some ⟨mb, mf, none⟩) cl mc) := fun xx ww => congrFun (congrFun (congrFun hErga 7) xx) ww
              have erga8 : ∀ xx ww, Erga 8 xx ww = (xx = .int .i64 (k : Int)) := fun xx ww => congrFun (congrFun (congrFun hErga 8) xx) ww
              have erga9 : ∀ xx ww, Erga 9 xx ww = (xx = .pointer (some ⟨mb, mf + k, none⟩)) := fun xx ww => congrFun (congrFun (congrFun hErga 9) xx) ww
              have erga10 : ∀ xx ww, Erga 10 xx ww = (xx = .int .i64 most) := fun xx ww => congrFun (congrFun (congrFun hErga 10) xx) ww
              have erga11 : ∀ xx ww, Erga 11 xx ww = (xx = .int .i64 wd) := fun xx ww => congrFun (congrFun (congrFun hErga 11) xx) ww
              have erga12 : ∀ xx ww, Erga 12 xx ww = (xx = .slice (some ⟨sb, sf, none⟩) cl sc) := fun xx ww => congrFun (congrFun (congrFun hErga 12) xx) ww
              have erga13 : ∀ xx ww, Erga 13 xx ww = (xx = .int .i64 (k : Int)) := fun xx ww => congrFun (congrFun (congrFun hErga 13) xx) ww
              have erga14 : ∀ xx ww, Erga 14 xx ww = (xx = .pointer (some ⟨sb, sf + k, none⟩)) := fun xx ww => congrFun (congrFun (congrFun hErga 14) xx) ww
              have erga15 : ∀ xx ww, Erga 15 xx ww = (xx = .int .i64 side) := fun xx ww => congrFun (congrFun (congrFun hErga 15) xx) ww
              have erga16 : ∀ xx ww, Erga 16 xx ww = ((fun x w' => HeldE (intE .i32) (fun b => wb.heap.size ≤ b) w' x FT) xx ww) := fun xx ww => congrFun (congrFun (congrFun hErga 16) xx) ww
              have erga17 : ∀ xx ww, Erga 17 xx ww = ((fun x w' => OwnE (intE .i32) (fun _ => True) w' w.heap.size 21 x (L1 ++ FT)) xx ww) := fun xx ww => congrFun (congrFun (congrFun hErga 17) xx) ww
              have erga18 : ∀ xx ww, Erga 18 xx ww = ((fun x w' => OwnE (intE .i32) (fun _ => True) w' w.heap.size 21 x (L1 ++ FT)) xx ww) := fun xx ww => congrFun (congrFun (congrFun hErga 18) xx) ww
              obtain ⟨Crga, hCrga⟩ : ∃ CC : Array Bool → World → Prop, CC = fun L8 w' => (Mix.one L8 17 = 0 → Below wb.heap.size wb w') ∧ (Mix.one L8 17 = 1 → Below w.heap.size w w') := ⟨_, rfl⟩
              have krga : ∀ i L w, i ≠ 17 →  Crga L w → Crga (L.setIfInBounds i true) w := by
                intro i L w q17 h
                rw [hCrga] at h ⊢
                simp only [Mix.one_ne q17]; exact h
              obtain ⟨Xrga, hXrga⟩ : ∃ XX : Nat → World → World → Prop, XX = fun kk ww1 ww2 => if kk = 17 then (fun x y => Upd (fun b => ov.ownBlock = some b) x y) ww1 ww2 else (fun x y => Below x.heap.size x y) ww1 ww2 := ⟨_, rfl⟩
              have xrga : ∀ {k : Nat} (w : World), Xrga k w w := by
                intro k w
                rw [hXrga]
                show if k = 17 then _ else _
                split
                · exact Upd.refl _ _
                · exact Below.refl _ _
              have crga : Crga (Array.replicate 19 false) wb.drew := by rw [hCrga]; exact ⟨fun _ => (Below.refl _ _).drew, fun e => absurd e (by decide)⟩
              have brga : ∀ L w w1, Crga L w → Below w.heap.size w w1 → Crga L w1 := by
                intro L w w1 h hb
                rw [hCrga] at h ⊢
                (obtain ⟨q1, q2⟩ := h; exact ⟨fun e => (q1 e).trans (hb.mono (q1 e).size), fun e => (q2 e).trans (hb.mono (q2 e).size)⟩)
              have xbrga : ∀ {k : Nat} (w w1 : World), Below w.heap.size w w1 → Xrga k w w1 := by
                intro k w w1 hb
                rw [hXrga]
                show if k = 17 then _ else _
                split
                · exact Upd.ofBelow hb
                · exact hb
              have Hrgab := Lib.hid brga
              have Hrgaxb : Go.RowKit.Hid (∀ {k : Nat} (w w1 : World), Below w.heap.size w w1 → Xrga k w w1) := @xbrga
              clear brga xbrga
              have HrgahE := Lib.hid hErga
              clear hErga
              have Hrgak := Lib.hid krga
              have Hrgax : Go.RowKit.Hid (∀ {k : Nat} (w : World), Xrga k w w) := @xrga
              have Hrgac := Lib.hid crga
              have HrgahC := Lib.hid hCrga
              have HrgahX := Lib.hid hXrga
              have Hrgae0 := Lib.hid erga0
              have Hrgae1 := Lib.hid erga1
              have Hrgae2 := Lib.hid erga2
              have Hrgae3 := Lib.hid erga3
              have Hrgae4 := Lib.hid erga4
              have Hrgae5 := Lib.hid erga5
              have Hrgae6 := Lib.hid erga6
              have Hrgae7 := Lib.hid erga7
              have Hrgae8 := Lib.hid erga8
              have Hrgae9 := Lib.hid erga9
              have Hrgae10 := Lib.hid erga10
              have Hrgae11 := Lib.hid erga11
              have Hrgae12 := Lib.hid erga12
              have Hrgae13 := Lib.hid erga13
              have Hrgae14 := Lib.hid erga14
              have Hrgae15 := Lib.hid erga15
              have Hrgae16 := Lib.hid erga16
              have Hrgae17 := Lib.hid erga17
              have Hrgae18 := Lib.hid erga18
              clear krga xrga crga hCrga hXrga erga0 erga1 erga2 erga3 erga4 erga5 erga6 erga7 erga8 erga9 erga10 erga11 erga12 erga13 erga14 erga15 erga16 erga17 erga18
              go_wp2_with fail
              refine RegX.regionF Erga Crga Xrga ?_ (by kernel_rfl) (by kernel_rfl) (by kernel_rfl) Hrgac.out (fun Frga hFrga => ?_)
              · intro ii jj x w w1 hji hr hx h
                rw [HrgahX.out] at hx
                by_cases hi : ii = 17
                · subst hi
                  simp only [if_pos] at hx
                  match jj with
                  | 0 => rw [Hrgae0.out] at h ⊢; exact h
                  | 1 => rw [Hrgae1.out] at h ⊢; exact h
                  | 2 => rw [Hrgae2.out] at h ⊢; exact h
                  | 3 => rw [Hrgae3.out] at h ⊢; exact h
                  | 4 => rw [Hrgae4.out] at h ⊢; exact h
                  | 5 => rw [Hrgae5.out] at h ⊢; exact h
                  | 6 => rw [Hrgae6.out] at h ⊢; exact h
                  | 7 => rw [Hrgae7.out] at h ⊢; exact h
                  | 8 => rw [Hrgae8.out] at h ⊢; exact h
                  | 9 => rw [Hrgae9.out] at h ⊢; exact h
                  | 10 => rw [Hrgae10.out] at h ⊢; exact h
                  | 11 => rw [Hrgae11.out] at h ⊢; exact h
                  | 12 => rw [Hrgae12.out] at h ⊢; exact h
                  | 13 => rw [Hrgae13.out] at h ⊢; exact h
                  | 14 => rw [Hrgae14.out] at h ⊢; exact h
                  | 15 => rw [Hrgae15.out] at h ⊢; exact h
                  | 16 => rw [Hrgae16.out] at h ⊢; (exact HeldE.upd h hx (fun b hb e => by have := (HLT.out b e).2; omega))
                  | 17 => exact absurd rfl hji
                  | 18 => exact absurd (hr.symm.trans (show Reg.reach _ 6 18 17 = true from by kernel_rfl)) (by decide)
                  | jj + 19 => rw [HrgahE.out]; trivial
                · simp only [if_neg hi] at hx
                  match jj with
                  | 0 => rw [Hrgae0.out] at h ⊢; exact h
                  | 1 => rw [Hrgae1.out] at h ⊢; exact h
                  | 2 => rw [Hrgae2.out] at h ⊢; exact h
                  | 3 => rw [Hrgae3.out] at h ⊢; exact h
                  | 4 => rw [Hrgae4.out] at h ⊢; exact h
                  | 5 => rw [Hrgae5.out] at h ⊢; exact h
                  | 6 => rw [Hrgae6.out] at h ⊢; exact h
                  | 7 => rw [Hrgae7.out] at h ⊢; exact h
                  | 8 => rw [Hrgae8.out] at h ⊢; exact h
                  | 9 => rw [Hrgae9.out] at h ⊢; exact h
                  | 10 => rw [Hrgae10.out] at h ⊢; exact h
                  | 11 => rw [Hrgae11.out] at h ⊢; exact h
                  | 12 => rw [Hrgae12.out] at h ⊢; exact h
                  | 13 => rw [Hrgae13.out] at h ⊢; exact h
                  | 14 => rw [Hrgae14.out] at h ⊢; exact h
                  | 15 => rw [Hrgae15.out] at h ⊢; exact h
                  | 16 => rw [Hrgae16.out] at h ⊢; (first | exact HeldE.below h hx | exact OwnE.below h hx)
                  | 17 => rw [Hrgae17.out] at h ⊢; (first | exact HeldE.below h hx | exact OwnE.below h hx)
                  | 18 => rw [Hrgae18.out] at h ⊢; (first | exact HeldE.below h hx | exact OwnE.below h hx)
                  | jj + 19 => rw [HrgahE.out]; trivial
              simp only [Reg.frame, Reg.dsts, List.map_cons, List.map_nil, Mix.put_lit, List.set_cons_succ, List.set_cons_zero, Nat.zero_add, Nat.reduceAdd] at hFrga
              refine ⟨?_, ?_⟩
              · refine ⟨?_, ?_, ?_, ?_, ?_, ?_, ?_, ?_, ?_, ?_, ?_, ?_, ?_, ?_, ?_, ?_, ?_, ?_, ?_, trivial⟩
                · intro Lq wq xq hh
                  have d18 := hh.old 18 (by kernel_rfl)
                  simp only [hFrga, d18]
                  clear d18
                  refine .inl ⟨rfl, ?_⟩
                  unfold Reg.upon
                  have hk := Hrgak.out 0 Lq wq (by decide)  hh.cls
                  have hx : Xrga 0 wq wq := Hrgax.out wq
                  have he : Erga 0 (ov) wq := by rw [Hrgae0.out]
                  have HK := Lib.hid (And.intro hk (And.intro he hx))
                  clear hk hx he
                  go_simp
                  exact HK.out
                · intro Lq wq xq hh
                  simp only [hFrga]
                  refine .inl ⟨rfl, ?_⟩
                  unfold Reg.upon
                  have hk := Hrgak.out 1 Lq wq (by decide)  hh.cls
                  have hx : Xrga 1 wq wq := Hrgax.out wq
                  have he : Erga 1 (.slice ao rl ca) wq := by rw [Hrgae1.out]
                  have HK := Lib.hid (And.intro hk (And.intro he hx))
                  clear hk hx he
                  go_simp
                  exact HK.out
                · intro Lq wq xq hh
                  simp only [hFrga]
                  refine .inl ⟨rfl, ?_⟩
                  unfold Reg.upon
                  have hk := Hrgak.out 2 Lq wq (by decide)  hh.cls
                  have hx : Xrga 2 wq wq := Hrgax.out wq
                  have he : Erga 2 (.int .i64 (i : Int)) wq := by rw [Hrgae2.out]
                  have HK := Lib.hid (And.intro hk (And.intro he hx))
                  clear hk hx he
                  go_simp
                  exact HK.out
                · intro Lq wq xq hh
                  simp only [hFrga]
                  refine .inl ⟨rfl, ?_⟩
                  unfold Reg.upon
                  have hk := Hrgak.out 3 Lq wq (by decide)  hh.cls
                  have hx : Xrga 3 wq wq := Hrgax.out wq
                  have he : Erga 3 (.int .i64 (k : Int)) wq := by rw [Hrgae3.out]
                  have HK := Lib.hid (And.intro hk (And.intro he hx))
                  clear hk hx he
                  go_simp
                  exact HK.out
                · intro Lq wq xq hh
                  have d1 : Erga 1 (xq 1) wq := hh.val 1 (by kernel_rfl) (by kernel_rfl)
                  rw [Hrgae1.out] at d1
                  have d2 : Erga 2 (xq 2) wq := hh.val 2 (by kernel_rfl) (by kernel_rfl)
                  rw [Hrgae2.out] at d2
                  have d3 : Erga 3 (xq 3) wq := hh.val 3 (by kernel_rfl) (by kernel_rfl)
                  rw [Hrgae3.out] at d3
                  simp only [hFrga, d1, d2, d3]
                  clear d1 d2 d3
                  refine .inl ⟨rfl, ?_⟩
                  unfold Reg.upon
                  have hc : Crga Lq wq := hh.cls
                  rw [HrgahC.out] at hc
                  go_simp
                  refine (HATK.out wq (HBW.out.trans ((hc.1 (Mix.one_un (hh.notYet 17 (by kernel_rfl)))).mono HBW.out.size))).mono ?_
                  rintro e w2 ⟨rfl, rfl⟩
                  exact ⟨_, rfl, Hrgak.out 4 Lq wq (by decide)  hh.cls, (by rw [Hrgae4.out]; try rfl), Hrgax.out _⟩
                · intro Lq wq xq hh
                  simp only [hFrga]
                  refine .inl ⟨rfl, ?_⟩
                  unfold Reg.upon
                  have hk := Hrgak.out 5 Lq wq (by decide)  hh.cls
                  have hx : Xrga 5 wq wq := Hrgax.out wq
                  have he : Erga 5 (.slice ao rl ca) wq := by rw [Hrgae5.out]
                  have HK := Lib.hid (And.intro hk (And.intro he hx))
                  clear hk hx he
                  go_simp
                  exact HK.out
                · intro Lq wq xq hh
                  simp only [hFrga]
                  refine .inl ⟨rfl, ?_⟩
                  unfold Reg.upon
                  have hk := Hrgak.out 6 Lq wq (by decide)  hh.cls
                  have hx : Xrga 6 wq wq := Hrgax.out wq
                  have he : Erga 6 (.int .i64 (k : Int)) wq := by rw [Hrgae6.out]
                  have HK := Lib.hid (And.intro hk (And.intro he hx))
                  clear hk hx he
                  go_simp
                  exact HK.out
                · intro Lq wq xq hh
                  simp only [hFrga]
                  refine .inl ⟨rfl, ?_⟩
                  unfold Reg.upon
                  have hk := Hrgak.out 7 Lq wq (by decide)  hh.cls
                  have hx : Xrga 7 wq wq := Hrgax.out wq
                  have he : Erga 7 (.slice (some ⟨mb, mf, none⟩) cl mc) wq := by rw [Hrgae7.out]
                  have HK := Lib.hid (And.intro hk (And.intro he hx))
                  clear hk hx he
                  go_simp
                  exact HK.out
                · intro Lq wq xq hh
                  simp only [hFrga]
                  refine .inl ⟨rfl, ?_⟩
                  unfold Reg.upon
                  have hk := Hrgak.out 8 Lq wq (by decide)  hh.cls
                  have hx : Xrga 8 wq wq := Hrgax.out wq
                  have he : Erga 8 (.int .i64 (k : Int)) wq := by rw [Hrgae8.out]
                  have HK := Lib.hid (And.intro hk (And.intro he hx))
                  clear hk hx he
                  go_simp
                  exact HK.out
                · intro Lq wq xq hh
                  have d7 : Erga 7 (xq 7) wq := hh.val 7 (by kernel_rfl) (by kernel_rfl)
                  rw [Hrgae7.out] at d7
                  have d8 : Erga 8 (xq 8) wq := hh.val 8 (by kernel_rfl) (by kernel_rfl)
                  rw [Hrgae8.out] at d8
                  simp only [hFrga, d7, d8]
                  clear d7 d8
                  refine .inl ⟨rfl, ?_⟩
                  unfold Reg.upon
                  have hk := Hrgak.out 9 Lq wq (by decide)  hh.cls
                  have hx : Xrga 9 wq wq := Hrgax.out wq
                  have he : Erga 9 (.pointer (some ⟨mb, mf + k, none⟩)) wq := by rw [Hrgae9.out]
                  have HK := Lib.hid (And.intro hk (And.intro he hx))
                  clear hk hx he
                  go_simp
                  exact HK.out
                · intro Lq wq xq hh
                  have d9 : Erga 9 (xq 9) wq := hh.val 9 (by kernel_rfl) (by kernel_rfl)
                  rw [Hrgae9.out] at d9
                  simp only [hFrga, d9]
                  clear d9
                  refine .inl ⟨rfl, ?_⟩
                  unfold Reg.upon
                  have hc : Crga Lq wq := hh.cls
                  rw [HrgahC.out] at hc
                  have q0 := ((hc.1 (Mix.one_un (hh.notYet 17 (by kernel_rfl)))).cell (p := ⟨mb, mf + k, none⟩) HBB9.out.1).trans CMW.out
                  clear hc
                  have hk := Hrgak.out 10 Lq wq (by decide)  hh.cls
                  have hx : Xrga 10 wq wq := Hrgax.out wq
                  have he : Erga 10 (.int .i64 most) wq := by rw [Hrgae10.out]
                  have HK := Lib.hid (And.intro hk (And.intro he hx))
                  clear hk hx he
                  go_simp
                  exact HK.out
                · intro Lq wq xq hh
                  have d5 : Erga 5 (xq 5) wq := hh.val 5 (by kernel_rfl) (by kernel_rfl)
                  rw [Hrgae5.out] at d5
                  have d6 : Erga 6 (xq 6) wq := hh.val 6 (by kernel_rfl) (by kernel_rfl)
                  rw [Hrgae6.out] at d6
                  have d10 : Erga 10 (xq 10) wq := hh.val 10 (by kernel_rfl) (by kernel_rfl)
                  rw [Hrgae10.out] at d10
                  simp only [hFrga, d5, d6, d10]
                  clear d5 d6 d10
                  refine .inl ⟨rfl, ?_⟩
                  unfold Reg.upon
                  have hc : Crga Lq wq := hh.cls
                  rw [HrgahC.out] at hc
                  go_simp
                  refine (HWID.out wq (HBW.out.trans ((hc.1 (Mix.one_un (hh.notYet 17 (by kernel_rfl)))).mono HBW.out.size))).mono ?_
                  rintro e w2 ⟨rfl, hb⟩
                  exact ⟨_, rfl, Hrgak.out 11 Lq w2 (by decide)  (Hrgab.out Lq wq w2 hh.cls hb), (by rw [Hrgae11.out]; try rfl), Hrgaxb.out wq w2 hb⟩
                · intro Lq wq xq hh
                  simp only [hFrga]
                  refine .inl ⟨rfl, ?_⟩
                  unfold Reg.upon
                  have hk := Hrgak.out 12 Lq wq (by decide)  hh.cls
                  have hx : Xrga 12 wq wq := Hrgax.out wq
                  have he : Erga 12 (.slice (some ⟨sb, sf, none⟩) cl sc) wq := by rw [Hrgae12.out]
                  have HK := Lib.hid (And.intro hk (And.intro he hx))
                  clear hk hx he
                  go_simp
                  exact HK.out
                · intro Lq wq xq hh
                  simp only [hFrga]
                  refine .inl ⟨rfl, ?_⟩
                  unfold Reg.upon
                  have hk := Hrgak.out 13 Lq wq (by decide)  hh.cls
                  have hx : Xrga 13 wq wq := Hrgax.out wq
                  have he : Erga 13 (.int .i64 (k : Int)) wq := by rw [Hrgae13.out]
                  have HK := Lib.hid (And.intro hk (And.intro he hx))
                  clear hk hx he
                  go_simp
                  exact HK.out
                · intro Lq wq xq hh
                  have d12 : Erga 12 (xq 12) wq := hh.val 12 (by kernel_rfl) (by kernel_rfl)
                  rw [Hrgae12.out] at d12
                  have d13 : Erga 13 (xq 13) wq := hh.val 13 (by kernel_rfl) (by kernel_rfl)
                  rw [Hrgae13.out] at d13
                  simp only [hFrga, d12, d13]
                  clear d12 d13
                  refine .inl ⟨rfl, ?_⟩
                  unfold Reg.upon
                  have hk := Hrgak.out 14 Lq wq (by decide)  hh.cls
                  have hx : Xrga 14 wq wq := Hrgax.out wq
                  have he : Erga 14 (.pointer (some ⟨sb, sf + k, none⟩)) wq := by rw [Hrgae14.out]
                  have HK := Lib.hid (And.intro hk (And.intro he hx))
                  clear hk hx he
                  go_simp
                  exact HK.out
                · intro Lq wq xq hh
                  have d14 : Erga 14 (xq 14) wq := hh.val 14 (by kernel_rfl) (by kernel_rfl)
                  rw [Hrgae14.out] at d14
                  simp only [hFrga, d14]
                  clear d14
                  refine .inl ⟨rfl, ?_⟩
                  unfold Reg.upon
                  have hc : Crga Lq wq := hh.cls
                  rw [HrgahC.out] at hc
                  have q0 := ((hc.1 (Mix.one_un (hh.notYet 17 (by kernel_rfl)))).cell (p := ⟨sb, sf + k, none⟩) HBB9.out.2).trans CSW.out
                  clear hc
                  have hk := Hrgak.out 15 Lq wq (by decide)  hh.cls
                  have hx : Xrga 15 wq wq := Hrgax.out wq
                  have he : Erga 15 (.int .i64 side) wq := by rw [Hrgae15.out]
                  have HK := Lib.hid (And.intro hk (And.intro he hx))
                  clear hk hx he
                  go_simp
                  exact HK.out
                · intro Lq wq xq hh
                  have d4 : Erga 4 (xq 4) wq := hh.val 4 (by kernel_rfl) (by kernel_rfl)
                  rw [Hrgae4.out] at d4
                  have d11 : Erga 11 (xq 11) wq := hh.val 11 (by kernel_rfl) (by kernel_rfl)
                  rw [Hrgae11.out] at d11
                  have d15 : Erga 15 (xq 15) wq := hh.val 15 (by kernel_rfl) (by kernel_rfl)
                  rw [Hrgae15.out] at d15
                  simp only [hFrga, d4, d11, d15]
                  clear d4 d11 d15
                  refine .inl ⟨rfl, ?_⟩
                  unfold Reg.upon
                  have hc : Crga Lq wq := hh.cls
                  rw [HrgahC.out] at hc
                  go_simp
                  refine (HFIT.out tv wq (HTV.out.below (HBW.out.trans ((hc.1 (Mix.one_un (hh.notYet 17 (by kernel_rfl)))).mono HBW.out.size)))).mono ?_
                  rintro e w2 ⟨v2, rfl, ho2, hb2⟩
                  have hsz := (hc.1 (Mix.one_un (hh.notYet 17 (by kernel_rfl)))).size
                  exact ⟨_, rfl, Hrgak.out 16 Lq w2 (by decide) (Hrgab.out Lq wq w2 hh.cls hb2), (by rw [Hrgae16.out]; exact (ownE_ints (Z := fun b => wb.heap.size ≤ b) ho2).held fun b hb _ => by omega), Hrgaxb.out wq w2 hb2⟩
                · intro Lq wq xq hh
                  have d0 : Erga 0 (xq 0) wq := hh.val 0 (by kernel_rfl) (by kernel_rfl)
                  rw [Hrgae0.out] at d0
                  have d16 : Erga 16 (xq 16) wq := hh.val 16 (by kernel_rfl) (by kernel_rfl)
                  rw [Hrgae16.out] at d16
                  simp only [hFrga, d0]
                  clear d0
                  refine .inl ⟨rfl, ?_⟩
                  unfold Reg.upon
                  have hc : Crga Lq wq := hh.cls
                  rw [HrgahC.out] at hc
                  have hc7 := hc.1 hh.un
                  have hc8 := HBW.out.trans (hc7.mono HBW.out.size)
                  obtain ⟨v', w', hr, h1, h2, h3, h4⟩ := run_append_e (P := Tryz.prog) (E := intE .i32) (Z := fun _ => True) (w := wq) (B := w.heap.size) (ty := 21) 34 _ (.int .i32 0) 4 Tryz.underlying34 info_tT rfl (by decide) (HO.out.below hc7) (d16.zone (Y := fun b => True ∧ ov.ownBlock ≠ some b) (fun b _ hz => ⟨trivial, fun e => by have := (HLT.out b e).2; omega⟩)) (by have := HLA.out; have := HFL.out; omega) (by have := HLA.out; have := HFL.out; omega) hc8.size
                  have hu : Upd (fun b => ov.ownBlock = some b) wq w' := ⟨h2.os, h2.tape, h2.output, h3.size, fun b hb hn => h3.block b hb hn⟩
                  rw [exec_app rfl rfl rfl hr]
                  refine ⟨?_, ?_, ?_⟩
                  · rw [HrgahC.out]
                    refine ⟨fun e => ?_, fun _ => hc8.trans h2⟩
                    rw [Mix.one_set (by rw [hh.size]; decide)] at e; exact absurd e (by decide)
                  · rw [Hrgae17.out]; exact h1
                  · rw [HrgahX.out]; exact hu
                · intro Lq wq xq hh
                  have d17 : Erga 17 (xq 17) wq := hh.val 17 (by kernel_rfl) (by kernel_rfl)
                  rw [Hrgae17.out] at d17
                  simp only [hFrga]
                  refine .inl ⟨rfl, ?_⟩
                  unfold Reg.upon
                  have hk := Hrgak.out 18 Lq wq (by decide) hh.cls
                  have hxrga : Xrga 18 wq wq := Hrgax.out wq
                  have he : Erga 18 (xq 17) wq := by rw [Hrgae18.out]; exact d17
                  have HK := Lib.hid (And.intro hk (And.intro he hxrga))
                  clear hk hxrga he
                  go_simp
                  exact HK.out
              intro xq wrga hcrga hvrga
              rw [HrgahC.out] at hcrga
              simp only [hFrga]
              have vrga18 : Erga 18 (xq 18) wrga := hvrga 18 (by decide)
              rw [Hrgae18.out] at vrga18
              clear hvrga hFrga Hrgak Hrgax HrgahE Hrgac HrgahC HrgahX Hrgab Hrgaxb Hrgae0 Hrgae1 Hrgae2 Hrgae3 Hrgae4 Hrgae5 Hrgae6 Hrgae7 Hrgae8 Hrgae9 Hrgae10 Hrgae11 Hrgae12 Hrgae13 Hrgae14 Hrgae15 Hrgae16 Hrgae17 Hrgae18
              obtain ⟨_, k2⟩ := hcrga
              have HF2 := Lib.hid (k2 (by kernel_rfl))
              have HF1 := Lib.hid (show OwnE (intE .i32) (fun _ => True) wrga w.heap.size 21 (xq 18) (lineC rows cols gap i (k + 1)) from by rw [HNX.out, ← HL1.out]; exact vrga18)
              obtain ⟨ov9, hov9⟩ : ∃ ov9, ov9 = xq 18 := ⟨_, rfl⟩
              rw [← hov9] at HF1 ⊢
              clear k2 hov9 vrga18
              go_wp2
              go_roundw
              case rel => exact ⟨k + 1, by omega, by go_num, HF1.out, HF2.out⟩
              case measure => simp [intOf] <;> omega
            · have g1 : decide ((b : Int) < gap) = false := by rw [decide_eq_false_iff_not]; exact hga
              clear hk0 hgd hga
              go_wp2
              obtain ⟨Ergb, hErgb⟩ : ∃ EE : Nat → Value → World → Prop, EE = fun jj xx ww => match jj with
                  | 0 => xx = ov
                  | 1 => xx = .slice ao rl ca
                  | 2 => xx = .int .i64 (i : Int)
                  | 3 => xx = .int .i64 (k : Int)
                  | 4 => xx = tv
                  | 5 => xx = .slice ao rl ca
                  | 6 => xx = .int .i64 (k : Int)
                  | 7 => xx = .slice (some ⟨mb, mf, none⟩) cl mc
                  | 8 => xx = .int .i64 (k : Int)
                  | 9 => xx = .pointer (some ⟨mb, mf + k, none⟩)
                  | 10 => xx = .int .i64 most
                  | 11 => xx = .int .i64 wd
                  | 12 => xx = .slice (some ⟨sb, sf, none⟩) cl sc
                  | 13 => xx = .int .i64 (k : Int)
                  | 14 => xx = .pointer (some ⟨sb, sf + k, none⟩)
                  | 15 => xx = .int .i64 side
                  | 16 => (fun x w' => HeldE (intE .i32) (fun b => wb.heap.size ≤ b) w' x FT) xx ww
                  | 17 => (fun x w' => OwnE (intE .i32) (fun _ => True) w' w.heap.size 21 x (L1 ++ FT)) xx ww
                  | 18 => (fun x w' => OwnE (intE .i32) (fun _ => True) w' w.heap.size 21 x (L1 ++ FT)) xx ww
                  | _ => True := ⟨_, rfl⟩
              have ergb0 : ∀ xx ww, Ergb 0 xx ww = (xx = ov) := fun xx ww => congrFun (congrFun (congrFun hErgb 0) xx) ww
              have ergb1 : ∀ xx ww, Ergb 1 xx ww = (xx = .slice ao rl ca) := fun xx ww => congrFun (congrFun (congrFun hErgb 1) xx) ww
              have ergb2 : ∀ xx ww, Ergb 2 xx ww = (xx = .int .i64 (i : Int)) := fun xx ww => congrFun (congrFun (congrFun hErgb 2) xx) ww
              have ergb3 : ∀ xx ww, Ergb 3 xx ww = (xx = .int .i64 (k : Int)) := fun xx ww => congrFun (congrFun (congrFun hErgb 3) xx) ww
              have ergb4 : ∀ xx ww, Ergb 4 xx ww = (xx = tv) := fun xx ww => congrFun (congrFun (congrFun hErgb 4) xx) ww
              have ergb5 : ∀ xx ww, Ergb 5 xx ww = (xx = .slice ao rl ca) := fun xx ww => congrFun (congrFun (congrFun hErgb 5) xx) ww
              have ergb6 : ∀ xx ww, Ergb 6 xx ww = (xx = .int .i64 (k : Int)) := fun xx ww => congrFun (congrFun (congrFun hErgb 6) xx) ww
              have ergb7 : ∀ xx ww, Ergb 7 xx ww = (xx = .slice (some ⟨mb, mf, none⟩) cl mc) := fun xx ww => congrFun (congrFun (congrFun hErgb 7) xx) ww
              have ergb8 : ∀ xx ww, Ergb 8 xx ww = (xx = .int .i64 (k : Int)) := fun xx ww => congrFun (congrFun (congrFun hErgb 8) xx) ww
              have ergb9 : ∀ xx ww, Ergb 9 xx ww = (xx = .pointer (some ⟨mb, mf + k, none⟩)) := fun xx ww => congrFun (congrFun (congrFun hErgb 9) xx) ww
              have ergb10 : ∀ xx ww, Ergb 10 xx ww = (xx = .int .i64 most) := fun xx ww => congrFun (congrFun (congrFun hErgb 10) xx) ww
              have ergb11 : ∀ xx ww, Ergb 11 xx ww = (xx = .int .i64 wd) := fun xx ww => congrFun (congrFun (congrFun hErgb 11) xx) ww
              have ergb12 : ∀ xx ww, Ergb 12 xx ww = (xx = .slice (some ⟨sb, sf, none⟩) cl sc) := fun xx ww => congrFun (congrFun (congrFun hErgb 12) xx) ww
              have ergb13 : ∀ xx ww, Ergb 13 xx ww = (xx = .int .i64 (k : Int)) := fun xx ww => congrFun (congrFun (congrFun hErgb 13) xx) ww
              have ergb14 : ∀ xx ww, Ergb 14 xx ww = (xx = .pointer (some ⟨sb, sf + k, none⟩)) := fun xx ww => congrFun (congrFun (congrFun hErgb 14) xx) ww
              have ergb15 : ∀ xx ww, Ergb 15 xx ww = (xx = .int .i64 side) := fun xx ww => congrFun (congrFun (congrFun hErgb 15) xx) ww
              have ergb16 : ∀ xx ww, Ergb 16 xx ww = ((fun x w' => HeldE (intE .i32) (fun b => wb.heap.size ≤ b) w' x FT) xx ww) := fun xx ww => congrFun (congrFun (congrFun hErgb 16) xx) ww
              have ergb17 : ∀ xx ww, Ergb 17 xx ww = ((fun x w' => OwnE (intE .i32) (fun _ => True) w' w.heap.size 21 x (L1 ++ FT)) xx ww) := fun xx ww => congrFun (congrFun (congrFun hErgb 17) xx) ww
              have ergb18 : ∀ xx ww, Ergb 18 xx ww = ((fun x w' => OwnE (intE .i32) (fun _ => True) w' w.heap.size 21 x (L1 ++ FT)) xx ww) := fun xx ww => congrFun (congrFun (congrFun hErgb 18) xx) ww
              obtain ⟨Crgb, hCrgb⟩ : ∃ CC : Array Bool → World → Prop, CC = fun L8 w' => (Mix.one L8 17 = 0 → Below wb.heap.size wb w') ∧ (Mix.one L8 17 = 1 → Below w.heap.size w w') := ⟨_, rfl⟩
              have krgb : ∀ i L w, i ≠ 17 →  Crgb L w → Crgb (L.setIfInBounds i true) w := by
                intro i L w q17 h
                rw [hCrgb] at h ⊢
                simp only [Mix.one_ne q17]; exact h
              obtain ⟨Xrgb, hXrgb⟩ : ∃ XX : Nat → World → World → Prop, XX = fun kk ww1 ww2 => if kk = 17 then (fun x y => Upd (fun b => ov.ownBlock = some b) x y) ww1 ww2 else (fun x y => Below x.heap.size x y) ww1 ww2 := ⟨_, rfl⟩
              have xrgb : ∀ {k : Nat} (w : World), Xrgb k w w := by
                intro k w
                rw [hXrgb]
                show if k = 17 then _ else _
                split
                · exact Upd.refl _ _
                · exact Below.refl _ _
              have crgb : Crgb (Array.replicate 19 false) wb.drew := by rw [hCrgb]; exact ⟨fun _ => (Below.refl _ _).drew, fun e => absurd e (by decide)⟩
              have brgb : ∀ L w w1, Crgb L w → Below w.heap.size w w1 → Crgb L w1 := by
                intro L w w1 h hb
                rw [hCrgb] at h ⊢
                (obtain ⟨q1, q2⟩ := h; exact ⟨fun e => (q1 e).trans (hb.mono (q1 e).size), fun e => (q2 e).trans (hb.mono (q2 e).size)⟩)
              have xbrgb : ∀ {k : Nat} (w w1 : World), Below w.heap.size w w1 → Xrgb k w w1 := by
                intro k w w1 hb
                rw [hXrgb]
                show if k = 17 then _ else _
                split
                · exact Upd.ofBelow hb
                · exact hb
              have Hrgbb := Lib.hid brgb
              have Hrgbxb : Go.RowKit.Hid (∀ {k : Nat} (w w1 : World), Below w.heap.size w w1 → Xrgb k w w1) := @xbrgb
              clear brgb xbrgb
              have HrgbhE := Lib.hid hErgb
              clear hErgb
              have Hrgbk := Lib.hid krgb
              have Hrgbx : Go.RowKit.Hid (∀ {k : Nat} (w : World), Xrgb k w w) := @xrgb
              have Hrgbc := Lib.hid crgb
              have HrgbhC := Lib.hid hCrgb
              have HrgbhX := Lib.hid hXrgb
              have Hrgbe0 := Lib.hid ergb0
              have Hrgbe1 := Lib.hid ergb1
              have Hrgbe2 := Lib.hid ergb2
              have Hrgbe3 := Lib.hid ergb3
              have Hrgbe4 := Lib.hid ergb4
              have Hrgbe5 := Lib.hid ergb5
              have Hrgbe6 := Lib.hid ergb6
              have Hrgbe7 := Lib.hid ergb7
              have Hrgbe8 := Lib.hid ergb8
              have Hrgbe9 := Lib.hid ergb9
              have Hrgbe10 := Lib.hid ergb10
              have Hrgbe11 := Lib.hid ergb11
              have Hrgbe12 := Lib.hid ergb12
              have Hrgbe13 := Lib.hid ergb13
              have Hrgbe14 := Lib.hid ergb14
              have Hrgbe15 := Lib.hid ergb15
              have Hrgbe16 := Lib.hid ergb16
              have Hrgbe17 := Lib.hid ergb17
              have Hrgbe18 := Lib.hid ergb18
              clear krgb xrgb crgb hCrgb hXrgb ergb0 ergb1 ergb2 ergb3 ergb4 ergb5 ergb6 ergb7 ergb8 ergb9 ergb10 ergb11 ergb12 ergb13 ergb14 ergb15 ergb16 ergb17 ergb18
              go_wp2_with fail
              refine RegX.regionF Ergb Crgb Xrgb ?_ (by kernel_rfl) (by kernel_rfl) (by kernel_rfl) Hrgbc.out (fun Frgb hFrgb => ?_)
              · intro ii jj x w w1 hji hr hx h
                rw [HrgbhX.out] at hx
                by_cases hi : ii = 17
                · subst hi
                  simp only [if_pos] at hx
                  match jj with
                  | 0 => rw [Hrgbe0.out] at h ⊢; exact h
                  | 1 => rw [Hrgbe1.out] at h ⊢; exact h
                  | 2 => rw [Hrgbe2.out] at h ⊢; exact h
                  | 3 => rw [Hrgbe3.out] at h ⊢; exact h
                  | 4 => rw [Hrgbe4.out] at h ⊢; exact h
                  | 5 => rw [Hrgbe5.out] at h ⊢; exact h
                  | 6 => rw [Hrgbe6.out] at h ⊢; exact h
                  | 7 => rw [Hrgbe7.out] at h ⊢; exact h
                  | 8 => rw [Hrgbe8.out] at h ⊢; exact h
                  | 9 => rw [Hrgbe9.out] at h ⊢; exact h
                  | 10 => rw [Hrgbe10.out] at h ⊢; exact h
                  | 11 => rw [Hrgbe11.out] at h ⊢; exact h
                  | 12 => rw [Hrgbe12.out] at h ⊢; exact h
                  | 13 => rw [Hrgbe13.out] at h ⊢; exact h
                  | 14 => rw [Hrgbe14.out] at h ⊢; exact h
                  | 15 => rw [Hrgbe15.out] at h ⊢; exact h
                  | 16 => rw [Hrgbe16.out] at h ⊢; (exact HeldE.upd h hx (fun b hb e => by have := (HLT.out b e).2; omega))
                  | 17 => exact absurd rfl hji
                  | 18 => exact absurd (hr.symm.trans (show Reg.reach _ 6 18 17 = true from by kernel_rfl)) (by decide)
                  | jj + 19 => rw [HrgbhE.out]; trivial
                · simp only [if_neg hi] at hx
                  match jj with
                  | 0 => rw [Hrgbe0.out] at h ⊢; exact h
                  | 1 => rw [Hrgbe1.out] at h ⊢; exact h
                  | 2 => rw [Hrgbe2.out] at h ⊢; exact h
                  | 3 => rw [Hrgbe3.out] at h ⊢; exact h
                  | 4 => rw [Hrgbe4.out] at h ⊢; exact h
                  | 5 => rw [Hrgbe5.out] at h ⊢; exact h
                  | 6 => rw [Hrgbe6.out] at h ⊢; exact h
                  | 7 => rw [Hrgbe7.out] at h ⊢; exact h
                  | 8 => rw [Hrgbe8.out] at h ⊢; exact h
                  | 9 => rw [Hrgbe9.out] at h ⊢; exact h
                  | 10 => rw [Hrgbe10.out] at h ⊢; exact h
                  | 11 => rw [Hrgbe11.out] at h ⊢; exact h
                  | 12 => rw [Hrgbe12.out] at h ⊢; exact h
                  | 13 => rw [Hrgbe13.out] at h ⊢; exact h
                  | 14 => rw [Hrgbe14.out] at h ⊢; exact h
                  | 15 => rw [Hrgbe15.out] at h ⊢; exact h
                  | 16 => rw [Hrgbe16.out] at h ⊢; (first | exact HeldE.below h hx | exact OwnE.below h hx)
                  | 17 => rw [Hrgbe17.out] at h ⊢; (first | exact HeldE.below h hx | exact OwnE.below h hx)
                  | 18 => rw [Hrgbe18.out] at h ⊢; (first | exact HeldE.below h hx | exact OwnE.below h hx)
                  | jj + 19 => rw [HrgbhE.out]; trivial
              simp only [Reg.frame, Reg.dsts, List.map_cons, List.map_nil, Mix.put_lit, List.set_cons_succ, List.set_cons_zero, Nat.zero_add, Nat.reduceAdd] at hFrgb
              refine ⟨?_, ?_⟩
              · refine ⟨?_, ?_, ?_, ?_, ?_, ?_, ?_, ?_, ?_, ?_, ?_, ?_, ?_, ?_, ?_, ?_, ?_, ?_, ?_, trivial⟩
                · intro Lq wq xq hh
                  have d18 := hh.old 18 (by kernel_rfl)
                  simp only [hFrgb, d18]
                  clear d18
                  refine .inl ⟨rfl, ?_⟩
                  unfold Reg.upon
                  have hk := Hrgbk.out 0 Lq wq (by decide)  hh.cls
                  have hx : Xrgb 0 wq wq := Hrgbx.out wq
                  have he : Ergb 0 (ov) wq := by rw [Hrgbe0.out]
                  have HK := Lib.hid (And.intro hk (And.intro he hx))
                  clear hk hx he
                  go_simp
                  exact HK.out
                · intro Lq wq xq hh
                  simp only [hFrgb]
                  refine .inl ⟨rfl, ?_⟩
                  unfold Reg.upon
                  have hk := Hrgbk.out 1 Lq wq (by decide)  hh.cls
                  have hx : Xrgb 1 wq wq := Hrgbx.out wq
                  have he : Ergb 1 (.slice ao rl ca) wq := by rw [Hrgbe1.out]
                  have HK := Lib.hid (And.intro hk (And.intro he hx))
                  clear hk hx he
                  go_simp
                  exact HK.out
                · intro Lq wq xq hh
                  simp only [hFrgb]
                  refine .inl ⟨rfl, ?_⟩
                  unfold Reg.upon
                  have hk := Hrgbk.out 2 Lq wq (by decide)  hh.cls
                  have hx : Xrgb 2 wq wq := Hrgbx.out wq
                  have he : Ergb 2 (.int .i64 (i : Int)) wq := by rw [Hrgbe2.out]
                  have HK := Lib.hid (And.intro hk (And.intro he hx))
                  clear hk hx he
                  go_simp
                  exact HK.out
                · intro Lq wq xq hh
                  simp only [hFrgb]
                  refine .inl ⟨rfl, ?_⟩
                  unfold Reg.upon
                  have hk := Hrgbk.out 3 Lq wq (by decide)  hh.cls
                  have hx : Xrgb 3 wq wq := Hrgbx.out wq
                  have he : Ergb 3 (.int .i64 (k : Int)) wq := by rw [Hrgbe3.out]
                  have HK := Lib.hid (And.intro hk (And.intro he hx))
                  clear hk hx he
                  go_simp
                  exact HK.out
                · intro Lq wq xq hh
                  have d1 : Ergb 1 (xq 1) wq := hh.val 1 (by kernel_rfl) (by kernel_rfl)
                  rw [Hrgbe1.out] at d1
                  have d2 : Ergb 2 (xq 2) wq := hh.val 2 (by kernel_rfl) (by kernel_rfl)
                  rw [Hrgbe2.out] at d2
                  have d3 : Ergb 3 (xq 3) wq := hh.val 3 (by kernel_rfl) (by kernel_rfl)
                  rw [Hrgbe3.out] at d3
                  simp only [hFrgb, d1, d2, d3]
                  clear d1 d2 d3
                  refine .inl ⟨rfl, ?_⟩
                  unfold Reg.upon
                  have hc : Crgb Lq wq := hh.cls
                  rw [HrgbhC.out] at hc
                  go_simp
                  refine (HATK.out wq (HBW.out.trans ((hc.1 (Mix.one_un (hh.notYet 17 (by kernel_rfl)))).mono HBW.out.size))).mono ?_
                  rintro e w2 ⟨rfl, rfl⟩
                  exact ⟨_, rfl, Hrgbk.out 4 Lq wq (by decide)  hh.cls, (by rw [Hrgbe4.out]; try rfl), Hrgbx.out _⟩
                · intro Lq wq xq hh
                  simp only [hFrgb]
                  refine .inl ⟨rfl, ?_⟩
                  unfold Reg.upon
                  have hk := Hrgbk.out 5 Lq wq (by decide)  hh.cls
                  have hx : Xrgb 5 wq wq := Hrgbx.out wq
                  have he : Ergb 5 (.slice ao rl ca) wq := by rw [Hrgbe5.out]
                  have HK := Lib.hid (And.intro hk (And.intro he hx))
                  clear hk hx he
                  go_simp
                  exact HK.out
                · intro Lq wq xq hh
                  simp only [hFrgb]
                  refine .inl ⟨rfl, ?_⟩
                  unfold Reg.upon
                  have hk := Hrgbk.out 6 Lq wq (by decide)  hh.cls
                  have hx : Xrgb 6 wq wq := Hrgbx.out wq
                  have he : Ergb 6 (.int .i64 (k : Int)) wq := by rw [Hrgbe6.out]
                  have HK := Lib.hid (And.intro hk (And.intro he hx))
                  clear hk hx he
                  go_simp
                  exact HK.out
                · intro Lq wq xq hh
                  simp only [hFrgb]
                  refine .inl ⟨rfl, ?_⟩
                  unfold Reg.upon
                  have hk := Hrgbk.out 7 Lq wq (by decide)  hh.cls
                  have hx : Xrgb 7 wq wq := Hrgbx.out wq
                  have he : Ergb 7 (.slice (some ⟨mb, mf, none⟩) cl mc) wq := by rw [Hrgbe7.out]
                  have HK := Lib.hid (And.intro hk (And.intro he hx))
                  clear hk hx he
                  go_simp
                  exact HK.out
                · intro Lq wq xq hh
                  simp only [hFrgb]
                  refine .inl ⟨rfl, ?_⟩
                  unfold Reg.upon
                  have hk := Hrgbk.out 8 Lq wq (by decide)  hh.cls
                  have hx : Xrgb 8 wq wq := Hrgbx.out wq
                  have he : Ergb 8 (.int .i64 (k : Int)) wq := by rw [Hrgbe8.out]
                  have HK := Lib.hid (And.intro hk (And.intro he hx))
                  clear hk hx he
                  go_simp
                  exact HK.out
                · intro Lq wq xq hh
                  have d7 : Ergb 7 (xq 7) wq := hh.val 7 (by kernel_rfl) (by kernel_rfl)
                  rw [Hrgbe7.out] at d7
                  have d8 : Ergb 8 (xq 8) wq := hh.val 8 (by kernel_rfl) (by kernel_rfl)
                  rw [Hrgbe8.out] at d8
                  simp only [hFrgb, d7, d8]
                  clear d7 d8
                  refine .inl ⟨rfl, ?_⟩
                  unfold Reg.upon
                  have hk := Hrgbk.out 9 Lq wq (by decide)  hh.cls
                  have hx : Xrgb 9 wq wq := Hrgbx.out wq
                  have he : Ergb 9 (.pointer (some ⟨mb, mf + k, none⟩)) wq := by rw [Hrgbe9.out]
                  have HK := Lib.hid (And.intro hk (And.intro he hx))
                  clear hk hx he
                  go_simp
                  exact HK.out
                · intro Lq wq xq hh
                  have d9 : Ergb 9 (xq 9) wq := hh.val 9 (by kernel_rfl) (by kernel_rfl)
                  rw [Hrgbe9.out] at d9
                  simp only [hFrgb, d9]
                  clear d9
                  refine .inl ⟨rfl, ?_⟩
                  unfold Reg.upon
                  have hc : Crgb Lq wq := hh.cls
                  rw [HrgbhC.out] at hc
                  have q0 := ((hc.1 (Mix.one_un (hh.notYet 17 (by kernel_rfl)))).cell (p := ⟨mb, mf + k, none⟩) HBB9.out.1).trans CMW.out
                  clear hc
                  have hk := Hrgbk.out 10 Lq wq (by decide)  hh.cls
                  have hx : Xrgb 10 wq wq := Hrgbx.out wq
                  have he : Ergb 10 (.int .i64 most) wq := by rw [Hrgbe10.out]
                  have HK := Lib.hid (And.intro hk (And.intro he hx))
                  clear hk hx he
                  go_simp
                  exact HK.out
                · intro Lq wq xq hh
                  have d5 : Ergb 5 (xq 5) wq := hh.val 5 (by kernel_rfl) (by kernel_rfl)
                  rw [Hrgbe5.out] at d5
                  have d6 : Ergb 6 (xq 6) wq := hh.val 6 (by kernel_rfl) (by kernel_rfl)
                  rw [Hrgbe6.out] at d6
                  have d10 : Ergb 10 (xq 10) wq := hh.val 10 (by kernel_rfl) (by kernel_rfl)
                  rw [Hrgbe10.out] at d10
                  simp only [hFrgb, d5, d6, d10]
                  clear d5 d6 d10
                  refine .inl ⟨rfl, ?_⟩
                  unfold Reg.upon
                  have hc : Crgb Lq wq := hh.cls
                  rw [HrgbhC.out] at hc
                  go_simp
                  refine (HWID.out wq (HBW.out.trans ((hc.1 (Mix.one_un (hh.notYet 17 (by kernel_rfl)))).mono HBW.out.size))).mono ?_
                  rintro e w2 ⟨rfl, hb⟩
                  exact ⟨_, rfl, Hrgbk.out 11 Lq w2 (by decide)  (Hrgbb.out Lq wq w2 hh.cls hb), (by rw [Hrgbe11.out]; try rfl), Hrgbxb.out wq w2 hb⟩
                · intro Lq wq xq hh
                  simp only [hFrgb]
                  refine .inl ⟨rfl, ?_⟩
                  unfold Reg.upon
                  have hk := Hrgbk.out 12 Lq wq (by decide)  hh.cls
                  have hx : Xrgb 12 wq wq := Hrgbx.out wq
                  have he : Ergb 12 (.slice (some ⟨sb, sf, none⟩) cl sc) wq := by rw [Hrgbe12.out]
                  have HK := Lib.hid (And.intro hk (And.intro he hx))
                  clear hk hx he
                  go_simp
                  exact HK.out
                · intro Lq wq xq hh
                  simp only [hFrgb]
                  refine .inl ⟨rfl, ?_⟩
                  unfold Reg.upon
                  have hk := Hrgbk.out 13 Lq wq (by decide)  hh.cls
                  have hx : Xrgb 13 wq wq := Hrgbx.out wq
                  have he : Ergb 13 (.int .i64 (k : Int)) wq := by rw [Hrgbe13.out]
                  have HK := Lib.hid (And.intro hk (And.intro he hx))
                  clear hk hx he
                  go_simp
                  exact HK.out
                · intro Lq wq xq hh
                  have d12 : Ergb 12 (xq 12) wq := hh.val 12 (by kernel_rfl) (by kernel_rfl)
                  rw [Hrgbe12.out] at d12
                  have d13 : Ergb 13 (xq 13) wq := hh.val 13 (by kernel_rfl) (by kernel_rfl)
                  rw [Hrgbe13.out] at d13
                  simp only [hFrgb, d12, d13]
                  clear d12 d13
                  refine .inl ⟨rfl, ?_⟩
                  unfold Reg.upon
                  have hk := Hrgbk.out 14 Lq wq (by decide)  hh.cls
                  have hx : Xrgb 14 wq wq := Hrgbx.out wq
                  have he : Ergb 14 (.pointer (some ⟨sb, sf + k, none⟩)) wq := by rw [Hrgbe14.out]
                  have HK := Lib.hid (And.intro hk (And.intro he hx))
                  clear hk hx he
                  go_simp
                  exact HK.out
                · intro Lq wq xq hh
                  have d14 : Ergb 14 (xq 14) wq := hh.val 14 (by kernel_rfl) (by kernel_rfl)
                  rw [Hrgbe14.out] at d14
                  simp only [hFrgb, d14]
                  clear d14
                  refine .inl ⟨rfl, ?_⟩
                  unfold Reg.upon
                  have hc : Crgb Lq wq := hh.cls
                  rw [HrgbhC.out] at hc
                  have q0 := ((hc.1 (Mix.one_un (hh.notYet 17 (by kernel_rfl)))).cell (p := ⟨sb, sf + k, none⟩) HBB9.out.2).trans CSW.out
                  clear hc
                  have hk := Hrgbk.out 15 Lq wq (by decide)  hh.cls
                  have hx : Xrgb 15 wq wq := Hrgbx.out wq
                  have he : Ergb 15 (.int .i64 side) wq := by rw [Hrgbe15.out]
                  have HK := Lib.hid (And.intro hk (And.intro he hx))
                  clear hk hx he
                  go_simp
                  exact HK.out
                · intro Lq wq xq hh
                  have d4 : Ergb 4 (xq 4) wq := hh.val 4 (by kernel_rfl) (by kernel_rfl)
                  rw [Hrgbe4.out] at d4
                  have d11 : Ergb 11 (xq 11) wq := hh.val 11 (by kernel_rfl) (by kernel_rfl)
                  rw [Hrgbe11.out] at d11
                  have d15 : Ergb 15 (xq 15) wq := hh.val 15 (by kernel_rfl) (by kernel_rfl)
                  rw [Hrgbe15.out] at d15
                  simp only [hFrgb, d4, d11, d15]
                  clear d4 d11 d15
                  refine .inl ⟨rfl, ?_⟩
                  unfold Reg.upon
                  have hc : Crgb Lq wq := hh.cls
                  rw [HrgbhC.out] at hc
                  go_simp
                  refine (HFIT.out tv wq (HTV.out.below (HBW.out.trans ((hc.1 (Mix.one_un (hh.notYet 17 (by kernel_rfl)))).mono HBW.out.size)))).mono ?_
                  rintro e w2 ⟨v2, rfl, ho2, hb2⟩
                  have hsz := (hc.1 (Mix.one_un (hh.notYet 17 (by kernel_rfl)))).size
                  exact ⟨_, rfl, Hrgbk.out 16 Lq w2 (by decide) (Hrgbb.out Lq wq w2 hh.cls hb2), (by rw [Hrgbe16.out]; exact (ownE_ints (Z := fun b => wb.heap.size ≤ b) ho2).held fun b hb _ => by omega), Hrgbxb.out wq w2 hb2⟩
                · intro Lq wq xq hh
                  have d0 : Ergb 0 (xq 0) wq := hh.val 0 (by kernel_rfl) (by kernel_rfl)
                  rw [Hrgbe0.out] at d0
                  have d16 : Ergb 16 (xq 16) wq := hh.val 16 (by kernel_rfl) (by kernel_rfl)
                  rw [Hrgbe16.out] at d16
                  simp only [hFrgb, d0]
                  clear d0
                  refine .inl ⟨rfl, ?_⟩
                  unfold Reg.upon
                  have hc : Crgb Lq wq := hh.cls
                  rw [HrgbhC.out] at hc
                  have hc7 := hc.1 hh.un
                  have hc8 := HBW.out.trans (hc7.mono HBW.out.size)
                  obtain ⟨v', w', hr, h1, h2, h3, h4⟩ := run_append_e (P := Tryz.prog) (E := intE .i32) (Z := fun _ => True) (w := wq) (B := w.heap.size) (ty := 21) 34 _ (.int .i32 0) 4 Tryz.underlying34 info_tT rfl (by decide) (HO.out.below hc7) (d16.zone (Y := fun b => True ∧ ov.ownBlock ≠ some b) (fun b _ hz => ⟨trivial, fun e => by have := (HLT.out b e).2; omega⟩)) (by have := HLA.out; have := HFL.out; omega) (by have := HLA.out; have := HFL.out; omega) hc8.size
                  have hu : Upd (fun b => ov.ownBlock = some b) wq w' := ⟨h2.os, h2.tape, h2.output, h3.size, fun b hb hn => h3.block b hb hn⟩
                  rw [exec_app rfl rfl rfl hr]
                  refine ⟨?_, ?_, ?_⟩
                  · rw [HrgbhC.out]
                    refine ⟨fun e => ?_, fun _ => hc8.trans h2⟩
                    rw [Mix.one_set (by rw [hh.size]; decide)] at e; exact absurd e (by decide)
                  · rw [Hrgbe17.out]; exact h1
                  · rw [HrgbhX.out]; exact hu
                · intro Lq wq xq hh
                  have d17 : Ergb 17 (xq 17) wq := hh.val 17 (by kernel_rfl) (by kernel_rfl)
                  rw [Hrgbe17.out] at d17
                  simp only [hFrgb]
                  refine .inl ⟨rfl, ?_⟩
                  unfold Reg.upon
                  have hk := Hrgbk.out 18 Lq wq (by decide) hh.cls
                  have hxrgb : Xrgb 18 wq wq := Hrgbx.out wq
                  have he : Ergb 18 (xq 17) wq := by rw [Hrgbe18.out]; exact d17
                  have HK := Lib.hid (And.intro hk (And.intro he hxrgb))
                  clear hk hxrgb he
                  go_simp
                  exact HK.out
              intro xq wrgb hcrgb hvrgb
              rw [HrgbhC.out] at hcrgb
              simp only [hFrgb]
              have vrgb18 : Ergb 18 (xq 18) wrgb := hvrgb 18 (by decide)
              rw [Hrgbe18.out] at vrgb18
              clear hvrgb hFrgb Hrgbk Hrgbx HrgbhE Hrgbc HrgbhC HrgbhX Hrgbb Hrgbxb Hrgbe0 Hrgbe1 Hrgbe2 Hrgbe3 Hrgbe4 Hrgbe5 Hrgbe6 Hrgbe7 Hrgbe8 Hrgbe9 Hrgbe10 Hrgbe11 Hrgbe12 Hrgbe13 Hrgbe14 Hrgbe15 Hrgbe16 Hrgbe17 Hrgbe18
              obtain ⟨_, k2⟩ := hcrgb
              have HF2 := Lib.hid (k2 (by kernel_rfl))
              have HF1 := Lib.hid (show OwnE (intE .i32) (fun _ => True) wrgb w.heap.size 21 (xq 18) (lineC rows cols gap i (k + 1)) from by rw [HNX.out, ← HL1.out]; exact vrgb18)
              obtain ⟨ov9, hov9⟩ : ∃ ov9, ov9 = xq 18 := ⟨_, rfl⟩
              rw [← hov9] at HF1 ⊢
              clear k2 hov9 vrgb18
              go_wp2
              go_roundw
              case rel => exact ⟨k + 1, by omega, by go_num, HF1.out, HF2.out⟩
              case measure => simp [intOf] <;> omega
          · rw [if_neg hk0] at hgd
            unfold gapC at hgd
            by_cases hga : (b : Int) < gap
            · have g1 : decide ((b : Int) < gap) = true := by rw [decide_eq_true_eq]; exact hga
              have g2 : decide ((b : Int) < 1024) = false := by rw [decide_eq_false_iff_not]; omega
              have g4 : decide (b < 1024) = false := by rw [decide_eq_false_iff_not]; omega
              clear hk0 hgd hga
              go_wp2
              obtain ⟨Ergc, hErgc⟩ : ∃ EE : Nat → Value → World → Prop, EE = fun jj xx ww => match jj with
                  | 0 => xx = ov
                  | 1 => xx = .slice ao rl ca
                  | 2 => xx = .int .i64 (i : Int)
                  | 3 => xx = .int .i64 (k : Int)
                  | 4 => xx = tv
                  | 5 => xx = .slice ao rl ca
                  | 6 => xx = .int .i64 (k : Int)
                  | 7 => xx = .slice (some ⟨mb, mf, none⟩) cl mc
                  | 8 => xx = .int .i64 (k : Int)
                  | 9 => xx = .pointer (some ⟨mb, mf + k, none⟩)
                  | 10 => xx = .int .i64 most
                  | 11 => xx = .int .i64 wd
                  | 12 => xx = .slice (some ⟨sb, sf, none⟩) cl sc
                  | 13 => xx = .int .i64 (k : Int)
                  | 14 => xx = .pointer (some ⟨sb, sf + k, none⟩)
                  | 15 => xx = .int .i64 side
                  | 16 => (fun x w' => HeldE (intE .i32) (fun b => wb.heap.size ≤ b) w' x FT) xx ww
                  | 17 => (fun x w' => OwnE (intE .i32) (fun _ => True) w' w.heap.size 21 x (L1 ++ FT)) xx ww
                  | 18 => (fun x w' => OwnE (intE .i32) (fun _ => True) w' w.heap.size 21 x (L1 ++ FT)) xx ww
                  | _ => True := ⟨_, rfl⟩
              have ergc0 : ∀ xx ww, Ergc 0 xx ww = (xx = ov) := fun xx ww => congrFun (congrFun (congrFun hErgc 0) xx) ww
              have ergc1 : ∀ xx ww, Ergc 1 xx ww = (xx = .slice ao rl ca) := fun xx ww => congrFun (congrFun (congrFun hErgc 1) xx) ww
              have ergc2 : ∀ xx ww, Ergc 2 xx ww = (xx = .int .i64 (i : Int)) := fun xx ww => congrFun (congrFun (congrFun hErgc 2) xx) ww
              have ergc3 : ∀ xx ww, Ergc 3 xx ww = (xx = .int .i64 (k : Int)) := fun xx ww => congrFun (congrFun (congrFun hErgc 3) xx) ww
              have ergc4 : ∀ xx ww, Ergc 4 xx ww = (xx = tv) := fun xx ww => congrFun (congrFun (congrFun hErgc 4) xx) ww
              have ergc5 : ∀ xx ww, Ergc 5 xx ww = (xx = .slice ao rl ca) := fun xx ww => congrFun (congrFun (congrFun hErgc 5) xx) ww
              have ergc6 : ∀ xx ww, Ergc 6 xx ww = (xx = .int .i64 (k : Int)) := fun xx ww => congrFun (congrFun (congrFun hErgc 6) xx) ww
              have ergc7 : ∀ xx ww, Ergc 7 xx ww = (xx = .slice (some ⟨mb, mf, none⟩) cl mc) := fun xx ww => congrFun (congrFun (congrFun hErgc 7) xx) ww
              have ergc8 : ∀ xx ww, Ergc 8 xx ww = (xx = .int .i64 (k : Int)) := fun xx ww => congrFun (congrFun (congrFun hErgc 8) xx) ww
              have ergc9 : ∀ xx ww, Ergc 9 xx ww = (xx = .pointer (some ⟨mb, mf + k, none⟩)) := fun xx ww => congrFun (congrFun (congrFun hErgc 9) xx) ww
              have ergc10 : ∀ xx ww, Ergc 10 xx ww = (xx = .int .i64 most) := fun xx ww => congrFun (congrFun (congrFun hErgc 10) xx) ww
              have ergc11 : ∀ xx ww, Ergc 11 xx ww = (xx = .int .i64 wd) := fun xx ww => congrFun (congrFun (congrFun hErgc 11) xx) ww
              have ergc12 : ∀ xx ww, Ergc 12 xx ww = (xx = .slice (some ⟨sb, sf, none⟩) cl sc) := fun xx ww => congrFun (congrFun (congrFun hErgc 12) xx) ww
              have ergc13 : ∀ xx ww, Ergc 13 xx ww = (xx = .int .i64 (k : Int)) := fun xx ww => congrFun (congrFun (congrFun hErgc 13) xx) ww
              have ergc14 : ∀ xx ww, Ergc 14 xx ww = (xx = .pointer (some ⟨sb, sf + k, none⟩)) := fun xx ww => congrFun (congrFun (congrFun hErgc 14) xx) ww
              have ergc15 : ∀ xx ww, Ergc 15 xx ww = (xx = .int .i64 side) := fun xx ww => congrFun (congrFun (congrFun hErgc 15) xx) ww
              have ergc16 : ∀ xx ww, Ergc 16 xx ww = ((fun x w' => HeldE (intE .i32) (fun b => wb.heap.size ≤ b) w' x FT) xx ww) := fun xx ww => congrFun (congrFun (congrFun hErgc 16) xx) ww
              have ergc17 : ∀ xx ww, Ergc 17 xx ww = ((fun x w' => OwnE (intE .i32) (fun _ => True) w' w.heap.size 21 x (L1 ++ FT)) xx ww) := fun xx ww => congrFun (congrFun (congrFun hErgc 17) xx) ww
              have ergc18 : ∀ xx ww, Ergc 18 xx ww = ((fun x w' => OwnE (intE .i32) (fun _ => True) w' w.heap.size 21 x (L1 ++ FT)) xx ww) := fun xx ww => congrFun (congrFun (congrFun hErgc 18) xx) ww
              obtain ⟨Crgc, hCrgc⟩ : ∃ CC : Array Bool → World → Prop, CC = fun L8 w' => (Mix.one L8 17 = 0 → Below wb.heap.size wb w') ∧ (Mix.one L8 17 = 1 → Below w.heap.size w w') := ⟨_, rfl⟩
              have krgc : ∀ i L w, i ≠ 17 →  Crgc L w → Crgc (L.setIfInBounds i true) w := by
                intro i L w q17 h
                rw [hCrgc] at h ⊢
                simp only [Mix.one_ne q17]; exact h
              obtain ⟨Xrgc, hXrgc⟩ : ∃ XX : Nat → World → World → Prop, XX = fun kk ww1 ww2 => if kk = 17 then (fun x y => Upd (fun b => ov.ownBlock = some b) x y) ww1 ww2 else (fun x y => Below x.heap.size x y) ww1 ww2 := ⟨_, rfl⟩
              have xrgc : ∀ {k : Nat} (w : World), Xrgc k w w := by
                intro k w
                rw [hXrgc]
                show if k = 17 then _ else _
                split
                · exact Upd.refl _ _
                · exact Below.refl _ _
              have crgc : Crgc (Array.replicate 19 false) wb.drew := by rw [hCrgc]; exact ⟨fun _ => (Below.refl _ _).drew, fun e => absurd e (by decide)⟩
              have brgc : ∀ L w w1, Crgc L w → Below w.heap.size w w1 → Crgc L w1 := by
                intro L w w1 h hb
                rw [hCrgc] at h ⊢
                (obtain ⟨q1, q2⟩ := h; exact ⟨fun e => (q1 e).trans (hb.mono (q1 e).size), fun e => (q2 e).trans (hb.mono (q2 e).size)⟩)
              have xbrgc : ∀ {k : Nat} (w w1 : World), Below w.heap.size w w1 → Xrgc k w w1 := by
                intro k w w1 hb
                rw [hXrgc]
                show if k = 17 then _ else _
                split
                · exact Upd.ofBelow hb
                · exact hb
              have Hrgcb := Lib.hid brgc
              have Hrgcxb : Go.RowKit.Hid (∀ {k : Nat} (w w1 : World), Below w.heap.size w w1 → Xrgc k w w1) := @xbrgc
              clear brgc xbrgc
              have HrgchE := Lib.hid hErgc
              clear hErgc
              have Hrgck := Lib.hid krgc
              have Hrgcx : Go.RowKit.Hid (∀ {k : Nat} (w : World), Xrgc k w w) := @xrgc
              have Hrgcc := Lib.hid crgc
              have HrgchC := Lib.hid hCrgc
              have HrgchX := Lib.hid hXrgc
              have Hrgce0 := Lib.hid ergc0
              have Hrgce1 := Lib.hid ergc1
              have Hrgce2 := Lib.hid ergc2
              have Hrgce3 := Lib.hid ergc3
              have Hrgce4 := Lib.hid ergc4
              have Hrgce5 := Lib.hid ergc5
              have Hrgce6 := Lib.hid ergc6
              have Hrgce7 := Lib.hid ergc7
              have Hrgce8 := Lib.hid ergc8
              have Hrgce9 := Lib.hid ergc9
              have Hrgce10 := Lib.hid ergc10
              have Hrgce11 := Lib.hid ergc11
              have Hrgce12 := Lib.hid ergc12
              have Hrgce13 := Lib.hid ergc13
              have Hrgce14 := Lib.hid ergc14
              have Hrgce15 := Lib.hid ergc15
              have Hrgce16 := Lib.hid ergc16
              have Hrgce17 := Lib.hid ergc17
              have Hrgce18 := Lib.hid ergc18
              clear krgc xrgc crgc hCrgc hXrgc ergc0 ergc1 ergc2 ergc3 ergc4 ergc5 ergc6 ergc7 ergc8 ergc9 ergc10 ergc11 ergc12 ergc13 ergc14 ergc15 ergc16 ergc17 ergc18
              go_wp2_with fail
              refine RegX.regionF Ergc Crgc Xrgc ?_ (by kernel_rfl) (by kernel_rfl) (by kernel_rfl) Hrgcc.out (fun Frgc hFrgc => ?_)
              · intro ii jj x w w1 hji hr hx h
                rw [HrgchX.out] at hx
                by_cases hi : ii = 17
                · subst hi
                  simp only [if_pos] at hx
                  match jj with
                  | 0 => rw [Hrgce0.out] at h ⊢; exact h
                  | 1 => rw [Hrgce1.out] at h ⊢; exact h
                  | 2 => rw [Hrgce2.out] at h ⊢; exact h
                  | 3 => rw [Hrgce3.out] at h ⊢; exact h
                  | 4 => rw [Hrgce4.out] at h ⊢; exact h
                  | 5 => rw [Hrgce5.out] at h ⊢; exact h
                  | 6 => rw [Hrgce6.out] at h ⊢; exact h
                  | 7 => rw [Hrgce7.out] at h ⊢; exact h
                  | 8 => rw [Hrgce8.out] at h ⊢; exact h
                  | 9 => rw [Hrgce9.out] at h ⊢; exact h
                  | 10 => rw [Hrgce10.out] at h ⊢; exact h
                  | 11 => rw [Hrgce11.out] at h ⊢; exact h
                  | 12 => rw [Hrgce12.out] at h ⊢; exact h
                  | 13 => rw [Hrgce13.out] at h ⊢; exact h
                  | 14 => rw [Hrgce14.out] at h ⊢; exact h
                  | 15 => rw [Hrgce15.out] at h ⊢; exact h
                  | 16 => rw [Hrgce16.out] at h ⊢; (exact HeldE.upd h hx (fun b hb e => by have := (HLT.out b e).2; omega))
                  | 17 => exact absurd rfl hji
                  | 18 => exact absurd (hr.symm.trans (show Reg.reach _ 6 18 17 = true from by kernel_rfl)) (by decide)
                  | jj + 19 => rw [HrgchE.out]; trivial
                · simp only [if_neg hi] at hx
                  match jj with
                  | 0 => rw [Hrgce0.out] at h ⊢; exact h
                  | 1 => rw [Hrgce1.out] at h ⊢; exact h
                  | 2 => rw [Hrgce2.out] at h ⊢; exact h
                  | 3 => rw [Hrgce3.out] at h ⊢; exact h
                  | 4 => rw [Hrgce4.out] at h ⊢; exact h
                  | 5 => rw [Hrgce5.out] at h ⊢; exact h
                  | 6 => rw [Hrgce6.out] at h ⊢; exact h
                  | 7 => rw [Hrgce7.out] at h ⊢; exact h
                  | 8 => rw [Hrgce8.out] at h ⊢; exact h
                  | 9 => rw [Hrgce9.out] at h ⊢; exact h
                  | 10 => rw [Hrgce10.out] at h ⊢; exact h
                  | 11 => rw [Hrgce11.out] at h ⊢; exact h
                  | 12 => rw [Hrgce12.out] at h ⊢; exact h
                  | 13 => rw [Hrgce13.out] at h ⊢; exact h
                  | 14 => rw [Hrgce14.out] at h ⊢; exact h
                  | 15 => rw [Hrgce15.out] at h ⊢; exact h
                  | 16 => rw [Hrgce16.out] at h ⊢; (first | exact HeldE.below h hx | exact OwnE.below h hx)
                  | 17 => rw [Hrgce17.out] at h ⊢; (first | exact HeldE.below h hx | exact OwnE.below h hx)
                  | 18 => rw [Hrgce18.out] at h ⊢; (first | exact HeldE.below h hx | exact OwnE.below h hx)
                  | jj + 19 => rw [HrgchE.out]; trivial
              simp only [Reg.frame, Reg.dsts, List.map_cons, List.map_nil, Mix.put_lit, List.set_cons_succ, List.set_cons_zero, Nat.zero_add, Nat.reduceAdd] at hFrgc
              refine ⟨?_, ?_⟩
              · refine ⟨?_, ?_, ?_, ?_, ?_, ?_, ?_, ?_, ?_, ?_, ?_, ?_, ?_, ?_, ?_, ?_, ?_, ?_, ?_, trivial⟩
                · intro Lq wq xq hh
                  have d18 := hh.old 18 (by kernel_rfl)
                  simp only [hFrgc, d18]
                  clear d18
                  refine .inl ⟨rfl, ?_⟩
                  unfold Reg.upon
                  have hk := Hrgck.out 0 Lq wq (by decide)  hh.cls
                  have hx : Xrgc 0 wq wq := Hrgcx.out wq
                  have he : Ergc 0 (ov) wq := by rw [Hrgce0.out]
                  have HK := Lib.hid (And.intro hk (And.intro he hx))
                  clear hk hx he
                  go_simp
                  exact HK.out
                · intro Lq wq xq hh
                  simp only [hFrgc]
                  refine .inl ⟨rfl, ?_⟩
                  unfold Reg.upon
                  have hk := Hrgck.out 1 Lq wq (by decide)  hh.cls
                  have hx : Xrgc 1 wq wq := Hrgcx.out wq
                  have he : Ergc 1 (.slice ao rl ca) wq := by rw [Hrgce1.out]
                  have HK := Lib.hid (And.intro hk (And.intro he hx))
                  clear hk hx he
                  go_simp
                  exact HK.out
                · intro Lq wq xq hh
                  simp only [hFrgc]
                  refine .inl ⟨rfl, ?_⟩
                  unfold Reg.upon
                  have hk := Hrgck.out 2 Lq wq (by decide)  hh.cls
                  have hx : Xrgc 2 wq wq := Hrgcx.out wq
                  have he : Ergc 2 (.int .i64 (i : Int)) wq := by rw [Hrgce2.out]
                  have HK := Lib.hid (And.intro hk (And.intro he hx))
                  clear hk hx he
                  go_simp
                  exact HK.out
                · intro Lq wq xq hh
                  simp only [hFrgc]
                  refine .inl ⟨rfl, ?_⟩
                  unfold Reg.upon
                  have hk := Hrgck.out 3 Lq wq (by decide)  hh.cls
                  have hx : Xrgc 3 wq wq := Hrgcx.out wq
                  have he : Ergc 3 (.int .i64 (k : Int)) wq := by rw [Hrgce3.out]
                  have HK := Lib.hid (And.intro hk (And.intro he hx))
                  clear hk hx he
                  go_simp
                  exact HK.out
                · intro Lq wq xq hh
                  have d1 : Ergc 1 (xq 1) wq := hh.val 1 (by kernel_rfl) (by kernel_rfl)
                  rw [Hrgce1.out] at d1
                  have d2 : Ergc 2 (xq 2) wq := hh.val 2 (by kernel_rfl) (by kernel_rfl)
                  rw [Hrgce2.out] at d2
                  have d3 : Ergc 3 (xq 3) wq := hh.val 3 (by kernel_rfl) (by kernel_rfl)
                  rw [Hrgce3.out] at d3
                  simp only [hFrgc, d1, d2, d3]
                  clear d1 d2 d3
                  refine .inl ⟨rfl, ?_⟩
                  unfold Reg.upon
                  have hc : Crgc Lq wq := hh.cls
                  rw [HrgchC.out] at hc
                  go_simp
                  refine (HATK.out wq (HBW.out.trans ((hc.1 (Mix.one_un (hh.notYet 17 (by kernel_rfl)))).mono HBW.out.size))).mono ?_
                  rintro e w2 ⟨rfl, rfl⟩
                  exact ⟨_, rfl, Hrgck.out 4 Lq wq (by decide)  hh.cls, (by rw [Hrgce4.out]; try rfl), Hrgcx.out _⟩
                · intro Lq wq xq hh
                  simp only [hFrgc]
                  refine .inl ⟨rfl, ?_⟩
                  unfold Reg.upon
                  have hk := Hrgck.out 5 Lq wq (by decide)  hh.cls
                  have hx : Xrgc 5 wq wq := Hrgcx.out wq
                  have he : Ergc 5 (.slice ao rl ca) wq := by rw [Hrgce5.out]
                  have HK := Lib.hid (And.intro hk (And.intro he hx))
                  clear hk hx he
                  go_simp
                  exact HK.out
                · intro Lq wq xq hh
                  simp only [hFrgc]
                  refine .inl ⟨rfl, ?_⟩
                  unfold Reg.upon
                  have hk := Hrgck.out 6 Lq wq (by decide)  hh.cls
                  have hx : Xrgc 6 wq wq := Hrgcx.out wq
                  have he : Ergc 6 (.int .i64 (k : Int)) wq := by rw [Hrgce6.out]
                  have HK := Lib.hid (And.intro hk (And.intro he hx))
                  clear hk hx he
                  go_simp
                  exact HK.out
                · intro Lq wq xq hh
                  simp only [hFrgc]
                  refine .inl ⟨rfl, ?_⟩
                  unfold Reg.upon
                  have hk := Hrgck.out 7 Lq wq (by decide)  hh.cls
                  have hx : Xrgc 7 wq wq := Hrgcx.out wq
                  have he : Ergc 7 (.slice (some ⟨mb, mf, none⟩) cl mc) wq := by rw [Hrgce7.out]
                  have HK := Lib.hid (And.intro hk (And.intro he hx))
                  clear hk hx he
                  go_simp
                  exact HK.out
                · intro Lq wq xq hh
                  simp only [hFrgc]
                  refine .inl ⟨rfl, ?_⟩
                  unfold Reg.upon
                  have hk := Hrgck.out 8 Lq wq (by decide)  hh.cls
                  have hx : Xrgc 8 wq wq := Hrgcx.out wq
                  have he : Ergc 8 (.int .i64 (k : Int)) wq := by rw [Hrgce8.out]
                  have HK := Lib.hid (And.intro hk (And.intro he hx))
                  clear hk hx he
                  go_simp
                  exact HK.out
                · intro Lq wq xq hh
                  have d7 : Ergc 7 (xq 7) wq := hh.val 7 (by kernel_rfl) (by kernel_rfl)
                  rw [Hrgce7.out] at d7
                  have d8 : Ergc 8 (xq 8) wq := hh.val 8 (by kernel_rfl) (by kernel_rfl)
                  rw [Hrgce8.out] at d8
                  simp only [hFrgc, d7, d8]
                  clear d7 d8
                  refine .inl ⟨rfl, ?_⟩
                  unfold Reg.upon
                  have hk := Hrgck.out 9 Lq wq (by decide)  hh.cls
                  have hx : Xrgc 9 wq wq := Hrgcx.out wq
                  have he : Ergc 9 (.pointer (some ⟨mb, mf + k, none⟩)) wq := by rw [Hrgce9.out]
                  have HK := Lib.hid (And.intro hk (And.intro he hx))
                  clear hk hx he
                  go_simp
                  exact HK.out
                · intro Lq wq xq hh
                  have d9 : Ergc 9 (xq 9) wq := hh.val 9 (by kernel_rfl) (by kernel_rfl)
                  rw [Hrgce9.out] at d9
                  simp only [hFrgc, d9]
                  clear d9
                  refine .inl ⟨rfl, ?_⟩
                  unfold Reg.upon
                  have hc : Crgc Lq wq := hh.cls
                  rw [HrgchC.out] at hc
                  have q0 := ((hc.1 (Mix.one_un (hh.notYet 17 (by kernel_rfl)))).cell (p := ⟨mb, mf + k, none⟩) HBB9.out.1).trans CMW.out
                  clear hc
                  have hk := Hrgck.out 10 Lq wq (by decide)  hh.cls
                  have hx : Xrgc 10 wq wq := Hrgcx.out wq
                  have he : Ergc 10 (.int .i64 most) wq := by rw [Hrgce10.out]
                  have HK := Lib.hid (And.intro hk (And.intro he hx))
                  clear hk hx he
                  go_simp
                  exact HK.out
                · intro Lq wq xq hh
                  have d5 : Ergc 5 (xq 5) wq := hh.val 5 (by kernel_rfl) (by kernel_rfl)
                  rw [Hrgce5.out] at d5
                  have d6 : Ergc 6 (xq 6) wq := hh.val 6 (by kernel_rfl) (by kernel_rfl)
                  rw [Hrgce6.out] at d6
                  have d10 : Ergc 10 (xq 10) wq := hh.val 10 (by kernel_rfl) (by kernel_rfl)
                  rw [Hrgce10.out] at d10
                  simp only [hFrgc, d5, d6, d10]
                  clear d5 d6 d10
                  refine .inl ⟨rfl, ?_⟩
                  unfold Reg.upon
                  have hc : Crgc Lq wq := hh.cls
                  rw [HrgchC.out] at hc
                  go_simp
                  refine (HWID.out wq (HBW.out.trans ((hc.1 (Mix.one_un (hh.notYet 17 (by kernel_rfl)))).mono HBW.out.size))).mono ?_
                  rintro e w2 ⟨rfl, hb⟩
                  exact ⟨_, rfl, Hrgck.out 11 Lq w2 (by decide)  (Hrgcb.out Lq wq w2 hh.cls hb), (by rw [Hrgce11.out]; try rfl), Hrgcxb.out wq w2 hb⟩
                · intro Lq wq xq hh
                  simp only [hFrgc]
                  refine .inl ⟨rfl, ?_⟩
                  unfold Reg.upon
                  have hk := Hrgck.out 12 Lq wq (by decide)  hh.cls
                  have hx : Xrgc 12 wq wq := Hrgcx.out wq
                  have he : Ergc 12 (.slice (some ⟨sb, sf, none⟩) cl sc) wq := by rw [Hrgce12.out]
                  have HK := Lib.hid (And.intro hk (And.intro he hx))
                  clear hk hx he
                  go_simp
                  exact HK.out
                · intro Lq wq xq hh
                  simp only [hFrgc]
                  refine .inl ⟨rfl, ?_⟩
                  unfold Reg.upon
                  have hk := Hrgck.out 13 Lq wq (by decide)  hh.cls
                  have hx : Xrgc 13 wq wq := Hrgcx.out wq
                  have he : Ergc 13 (.int .i64 (k : Int)) wq := by rw [Hrgce13.out]
                  have HK := Lib.hid (And.intro hk (And.intro he hx))
                  clear hk hx he
                  go_simp
                  exact HK.out
                · intro Lq wq xq hh
                  have d12 : Ergc 12 (xq 12) wq := hh.val 12 (by kernel_rfl) (by kernel_rfl)
                  rw [Hrgce12.out] at d12
                  have d13 : Ergc 13 (xq 13) wq := hh.val 13 (by kernel_rfl) (by kernel_rfl)
                  rw [Hrgce13.out] at d13
                  simp only [hFrgc, d12, d13]
                  clear d12 d13
                  refine .inl ⟨rfl, ?_⟩
                  unfold Reg.upon
                  have hk := Hrgck.out 14 Lq wq (by decide)  hh.cls
                  have hx : Xrgc 14 wq wq := Hrgcx.out wq
                  have he : Ergc 14 (.pointer (some ⟨sb, sf + k, none⟩)) wq := by rw [Hrgce14.out]
                  have HK := Lib.hid (And.intro hk (And.intro he hx))
                  clear hk hx he
                  go_simp
                  exact HK.out
                · intro Lq wq xq hh
                  have d14 : Ergc 14 (xq 14) wq := hh.val 14 (by kernel_rfl) (by kernel_rfl)
                  rw [Hrgce14.out] at d14
                  simp only [hFrgc, d14]
                  clear d14
                  refine .inl ⟨rfl, ?_⟩
                  unfold Reg.upon
                  have hc : Crgc Lq wq := hh.cls
                  rw [HrgchC.out] at hc
                  have q0 := ((hc.1 (Mix.one_un (hh.notYet 17 (by kernel_rfl)))).cell (p := ⟨sb, sf + k, none⟩) HBB9.out.2).trans CSW.out
                  clear hc
                  have hk := Hrgck.out 15 Lq wq (by decide)  hh.cls
                  have hx : Xrgc 15 wq wq := Hrgcx.out wq
                  have he : Ergc 15 (.int .i64 side) wq := by rw [Hrgce15.out]
                  have HK := Lib.hid (And.intro hk (And.intro he hx))
                  clear hk hx he
                  go_simp
                  exact HK.out
                · intro Lq wq xq hh
                  have d4 : Ergc 4 (xq 4) wq := hh.val 4 (by kernel_rfl) (by kernel_rfl)
                  rw [Hrgce4.out] at d4
                  have d11 : Ergc 11 (xq 11) wq := hh.val 11 (by kernel_rfl) (by kernel_rfl)
                  rw [Hrgce11.out] at d11
                  have d15 : Ergc 15 (xq 15) wq := hh.val 15 (by kernel_rfl) (by kernel_rfl)
                  rw [Hrgce15.out] at d15
                  simp only [hFrgc, d4, d11, d15]
                  clear d4 d11 d15
                  refine .inl ⟨rfl, ?_⟩
                  unfold Reg.upon
                  have hc : Crgc Lq wq := hh.cls
                  rw [HrgchC.out] at hc
                  go_simp
                  refine (HFIT.out tv wq (HTV.out.below (HBW.out.trans ((hc.1 (Mix.one_un (hh.notYet 17 (by kernel_rfl)))).mono HBW.out.size)))).mono ?_
                  rintro e w2 ⟨v2, rfl, ho2, hb2⟩
                  have hsz := (hc.1 (Mix.one_un (hh.notYet 17 (by kernel_rfl)))).size
                  exact ⟨_, rfl, Hrgck.out 16 Lq w2 (by decide) (Hrgcb.out Lq wq w2 hh.cls hb2), (by rw [Hrgce16.out]; exact (ownE_ints (Z := fun b => wb.heap.size ≤ b) ho2).held fun b hb _ => by omega), Hrgcxb.out wq w2 hb2⟩
                · intro Lq wq xq hh
                  have d0 : Ergc 0 (xq 0) wq := hh.val 0 (by kernel_rfl) (by kernel_rfl)
                  rw [Hrgce0.out] at d0
                  have d16 : Ergc 16 (xq 16) wq := hh.val 16 (by kernel_rfl) (by kernel_rfl)
                  rw [Hrgce16.out] at d16
                  simp only [hFrgc, d0]
                  clear d0
                  refine .inl ⟨rfl, ?_⟩
                  unfold Reg.upon
                  have hc : Crgc Lq wq := hh.cls
                  rw [HrgchC.out] at hc
                  have hc7 := hc.1 hh.un
                  have hc8 := HBW.out.trans (hc7.mono HBW.out.size)
                  obtain ⟨v', w', hr, h1, h2, h3, h4⟩ := run_append_e (P := Tryz.prog) (E := intE .i32) (Z := fun _ => True) (w := wq) (B := w.heap.size) (ty := 21) 34 _ (.int .i32 0) 4 Tryz.underlying34 info_tT rfl (by decide) (HO.out.below hc7) (d16.zone (Y := fun b => True ∧ ov.ownBlock ≠ some b) (fun b _ hz => ⟨trivial, fun e => by have := (HLT.out b e).2; omega⟩)) (by have := HLA.out; have := HFL.out; omega) (by have := HLA.out; have := HFL.out; omega) hc8.size
                  have hu : Upd (fun b => ov.ownBlock = some b) wq w' := ⟨h2.os, h2.tape, h2.output, h3.size, fun b hb hn => h3.block b hb hn⟩
                  rw [exec_app rfl rfl rfl hr]
                  refine ⟨?_, ?_, ?_⟩
                  · rw [HrgchC.out]
                    refine ⟨fun e => ?_, fun _ => hc8.trans h2⟩
                    rw [Mix.one_set (by rw [hh.size]; decide)] at e; exact absurd e (by decide)
                  · rw [Hrgce17.out]; exact h1
                  · rw [HrgchX.out]; exact hu
                · intro Lq wq xq hh
                  have d17 : Ergc 17 (xq 17) wq := hh.val 17 (by kernel_rfl) (by kernel_rfl)
                  rw [Hrgce17.out] at d17
                  simp only [hFrgc]
                  refine .inl ⟨rfl, ?_⟩
                  unfold Reg.upon
                  have hk := Hrgck.out 18 Lq wq (by decide) hh.cls
                  have hxrgc : Xrgc 18 wq wq := Hrgcx.out wq
                  have he : Ergc 18 (xq 17) wq := by rw [Hrgce18.out]; exact d17
                  have HK := Lib.hid (And.intro hk (And.intro he hxrgc))
                  clear hk hxrgc he
                  go_simp
                  exact HK.out
              intro xq wrgc hcrgc hvrgc
              rw [HrgchC.out] at hcrgc
              simp only [hFrgc]
              have vrgc18 : Ergc 18 (xq 18) wrgc := hvrgc 18 (by decide)
              rw [Hrgce18.out] at vrgc18
              clear hvrgc hFrgc Hrgck Hrgcx HrgchE Hrgcc HrgchC HrgchX Hrgcb Hrgcxb Hrgce0 Hrgce1 Hrgce2 Hrgce3 Hrgce4 Hrgce5 Hrgce6 Hrgce7 Hrgce8 Hrgce9 Hrgce10 Hrgce11 Hrgce12 Hrgce13 Hrgce14 Hrgce15 Hrgce16 Hrgce17 Hrgce18
              obtain ⟨_, k2⟩ := hcrgc
              have HF2 := Lib.hid (k2 (by kernel_rfl))
              have HF1 := Lib.hid (show OwnE (intE .i32) (fun _ => True) wrgc w.heap.size 21 (xq 18) (lineC rows cols gap i (k + 1)) from by rw [HNX.out, ← HL1.out]; exact vrgc18)
              obtain ⟨ov9, hov9⟩ : ∃ ov9, ov9 = xq 18 := ⟨_, rfl⟩
              rw [← hov9] at HF1 ⊢
              clear k2 hov9 vrgc18
              go_wp2
              go_roundw
              case rel => exact ⟨k + 1, by omega, by go_num, HF1.out, HF2.out⟩
              case measure => simp [intOf] <;> omega
            · have g1 : decide ((b : Int) < gap) = false := by rw [decide_eq_false_iff_not]; exact hga
              clear hk0 hgd hga
              go_wp2
              obtain ⟨Ergd, hErgd⟩ : ∃ EE : Nat → Value → World → Prop, EE = fun jj xx ww => match jj with
                  | 0 => xx = ov
                  | 1 => xx = .slice ao rl ca
                  | 2 => xx = .int .i64 (i : Int)
                  | 3 => xx = .int .i64 (k : Int)
                  | 4 => xx = tv
                  | 5 => xx = .slice ao rl ca
                  | 6 => xx = .int .i64 (k : Int)
                  | 7 => xx = .slice (some ⟨mb, mf, none⟩) cl mc
                  | 8 => xx = .int .i64 (k : Int)
                  | 9 => xx = .pointer (some ⟨mb, mf + k, none⟩)
                  | 10 => xx = .int .i64 most
                  | 11 => xx = .int .i64 wd
                  | 12 => xx = .slice (some ⟨sb, sf, none⟩) cl sc
                  | 13 => xx = .int .i64 (k : Int)
                  | 14 => xx = .pointer (some ⟨sb, sf + k, none⟩)
                  | 15 => xx = .int .i64 side
                  | 16 => (fun x w' => HeldE (intE .i32) (fun b => wb.heap.size ≤ b) w' x FT) xx ww
                  | 17 => (fun x w' => OwnE (intE .i32) (fun _ => True) w' w.heap.size 21 x (L1 ++ FT)) xx ww
                  | 18 => (fun x w' => OwnE (intE .i32) (fun _ => True) w' w.heap.size 21 x (L1 ++ FT)) xx ww
                  | _ => True := ⟨_, rfl⟩
              have ergd0 : ∀ xx ww, Ergd 0 xx ww = (xx = ov) := fun xx ww => congrFun (congrFun (congrFun hErgd 0) xx) ww
              have ergd1 : ∀ xx ww, Ergd 1 xx ww = (xx = .slice ao rl ca) := fun xx ww => congrFun (congrFun (congrFun hErgd 1) xx) ww
              have ergd2 : ∀ xx ww, Ergd 2 xx ww = (xx = .int .i64 (i : Int)) := fun xx ww => congrFun (congrFun (congrFun hErgd 2) xx) ww
              have ergd3 : ∀ xx ww, Ergd 3 xx ww = (xx = .int .i64 (k : Int)) := fun xx ww => congrFun (congrFun (congrFun hErgd 3) xx) ww
              have ergd4 : ∀ xx ww, Ergd 4 xx ww = (xx = tv) := fun xx ww => congrFun (congrFun (congrFun hErgd 4) xx) ww
              have ergd5 : ∀ xx ww, Ergd 5 xx ww = (xx = .slice ao rl ca) := fun xx ww => congrFun (congrFun (congrFun hErgd 5) xx) ww
              have ergd6 : ∀ xx ww, Ergd 6 xx ww = (xx = .int .i64 (k : Int)) := fun xx ww => congrFun (congrFun (congrFun hErgd 6) xx) ww
              have ergd7 : ∀ xx ww, Ergd 7 xx ww = (xx = .slice (some ⟨mb, mf, none⟩) cl mc) := fun xx ww => congrFun (congrFun (congrFun hErgd 7) xx) ww
              have ergd8 : ∀ xx ww, Ergd 8 xx ww = (xx = .int .i64 (k : Int)) := fun xx ww => congrFun (congrFun (congrFun hErgd 8) xx) ww
              have ergd9 : ∀ xx ww, Ergd 9 xx ww = (xx = .pointer (some ⟨mb, mf + k, none⟩)) := fun xx ww => congrFun (congrFun (congrFun hErgd 9) xx) ww
              have ergd10 : ∀ xx ww, Ergd 10 xx ww = (xx = .int .i64 most) := fun xx ww => congrFun (congrFun (congrFun hErgd 10) xx) ww
              have ergd11 : ∀ xx ww, Ergd 11 xx ww = (xx = .int .i64 wd) := fun xx ww => congrFun (congrFun (congrFun hErgd 11) xx) ww
              have ergd12 : ∀ xx ww, Ergd 12 xx ww = (xx = .slice (some ⟨sb, sf, none⟩) cl sc) := fun xx ww => congrFun (congrFun (congrFun hErgd 12) xx) ww
              have ergd13 : ∀ xx ww, Ergd 13 xx ww = (xx = .int .i64 (k : Int)) := fun xx ww => congrFun (congrFun (congrFun hErgd 13) xx) ww
              have ergd14 : ∀ xx ww, Ergd 14 xx ww = (xx = .pointer (some ⟨sb, sf + k, none⟩)) := fun xx ww => congrFun (congrFun (congrFun hErgd 14) xx) ww
              have ergd15 : ∀ xx ww, Ergd 15 xx ww = (xx = .int .i64 side) := fun xx ww => congrFun (congrFun (congrFun hErgd 15) xx) ww
              have ergd16 : ∀ xx ww, Ergd 16 xx ww = ((fun x w' => HeldE (intE .i32) (fun b => wb.heap.size ≤ b) w' x FT) xx ww) := fun xx ww => congrFun (congrFun (congrFun hErgd 16) xx) ww
              have ergd17 : ∀ xx ww, Ergd 17 xx ww = ((fun x w' => OwnE (intE .i32) (fun _ => True) w' w.heap.size 21 x (L1 ++ FT)) xx ww) := fun xx ww => congrFun (congrFun (congrFun hErgd 17) xx) ww
              have ergd18 : ∀ xx ww, Ergd 18 xx ww = ((fun x w' => OwnE (intE .i32) (fun _ => True) w' w.heap.size 21 x (L1 ++ FT)) xx ww) := fun xx ww => congrFun (congrFun (congrFun hErgd 18) xx) ww
              obtain ⟨Crgd, hCrgd⟩ : ∃ CC : Array Bool → World → Prop, CC = fun L8 w' => (Mix.one L8 17 = 0 → Below wb.heap.size wb w') ∧ (Mix.one L8 17 = 1 → Below w.heap.size w w') := ⟨_, rfl⟩
              have krgd : ∀ i L w, i ≠ 17 →  Crgd L w → Crgd (L.setIfInBounds i true) w := by
                intro i L w q17 h
                rw [hCrgd] at h ⊢
                simp only [Mix.one_ne q17]; exact h
              obtain ⟨Xrgd, hXrgd⟩ : ∃ XX : Nat → World → World → Prop, XX = fun kk ww1 ww2 => if kk = 17 then (fun x y => Upd (fun b => ov.ownBlock = some b) x y) ww1 ww2 else (fun x y => Below x.heap.size x y) ww1 ww2 := ⟨_, rfl⟩
              have xrgd : ∀ {k : Nat} (w : World), Xrgd k w w := by
                intro k w
                rw [hXrgd]
                show if k = 17 then _ else _
                split
                · exact Upd.refl _ _
                · exact Below.refl _ _
              have crgd : Crgd (Array.replicate 19 false) wb.drew := by rw [hCrgd]; exact ⟨fun _ => (Below.refl _ _).drew, fun e => absurd e (by decide)⟩
              have brgd : ∀ L w w1, Crgd L w → Below w.heap.size w w1 → Crgd L w1 := by
                intro L w w1 h hb
                rw [hCrgd] at h ⊢
                (obtain ⟨q1, q2⟩ := h; exact ⟨fun e => (q1 e).trans (hb.mono (q1 e).size), fun e => (q2 e).trans (hb.mono (q2 e).size)⟩)
              have xbrgd : ∀ {k : Nat} (w w1 : World), Below w.heap.size w w1 → Xrgd k w w1 := by
                intro k w w1 hb
                rw [hXrgd]
                show if k = 17 then _ else _
                split
                · exact Upd.ofBelow hb
                · exact hb
              have Hrgdb := Lib.hid brgd
              have Hrgdxb : Go.RowKit.Hid (∀ {k : Nat} (w w1 : World), Below w.heap.size w w1 → Xrgd k w w1) := @xbrgd
              clear brgd xbrgd
              have HrgdhE := Lib.hid hErgd
              clear hErgd
              have Hrgdk := Lib.hid krgd
              have Hrgdx : Go.RowKit.Hid (∀ {k : Nat} (w : World), Xrgd k w w) := @xrgd
              have Hrgdc := Lib.hid crgd
              have HrgdhC := Lib.hid hCrgd
              have HrgdhX := Lib.hid hXrgd
              have Hrgde0 := Lib.hid ergd0
              have Hrgde1 := Lib.hid ergd1
              have Hrgde2 := Lib.hid ergd2
              have Hrgde3 := Lib.hid ergd3
              have Hrgde4 := Lib.hid ergd4
              have Hrgde5 := Lib.hid ergd5
              have Hrgde6 := Lib.hid ergd6
              have Hrgde7 := Lib.hid ergd7
              have Hrgde8 := Lib.hid ergd8
              have Hrgde9 := Lib.hid ergd9
              have Hrgde10 := Lib.hid ergd10
              have Hrgde11 := Lib.hid ergd11
              have Hrgde12 := Lib.hid ergd12
              have Hrgde13 := Lib.hid ergd13
              have Hrgde14 := Lib.hid ergd14
              have Hrgde15 := Lib.hid ergd15
              have Hrgde16 := Lib.hid ergd16
              have Hrgde17 := Lib.hid ergd17
              have Hrgde18 := Lib.hid ergd18
              clear krgd xrgd crgd hCrgd hXrgd ergd0 ergd1 ergd2 ergd3 ergd4 ergd5 ergd6 ergd7 ergd8 ergd9 ergd10 ergd11 ergd12 ergd13 ergd14 ergd15 ergd16 ergd17 ergd18
              go_wp2_with fail
              refine RegX.regionF Ergd Crgd Xrgd ?_ (by kernel_rfl) (by kernel_rfl) (by kernel_rfl) Hrgdc.out (fun Frgd hFrgd => ?_)
              · intro ii jj x w w1 hji hr hx h
                rw [HrgdhX.out] at hx
                by_cases hi : ii = 17
                · subst hi
                  simp only [if_pos] at hx
                  match jj with
                  | 0 => rw [Hrgde0.out] at h ⊢; exact h
                  | 1 => rw [Hrgde1.out] at h ⊢; exact h
                  | 2 => rw [Hrgde2.out] at h ⊢; exact h
                  | 3 => rw [Hrgde3.out] at h ⊢; exact h
                  | 4 => rw [Hrgde4.out] at h ⊢; exact h
                  | 5 => rw [Hrgde5.out] at h ⊢; exact h
                  | 6 => rw [Hrgde6.out] at h ⊢; exact h
                  | 7 => rw [Hrgde7.out] at h ⊢; exact h
                  | 8 => rw [Hrgde8.out] at h ⊢; exact h
                  | 9 => rw [Hrgde9.out] at h ⊢; exact h
                  | 10 => rw [Hrgde10.out] at h ⊢; exact h
                  | 11 => rw [Hrgde11.out] at h ⊢; exact h
                  | 12 => rw [Hrgde12.out] at h ⊢; exact h
                  | 13 => rw [Hrgde13.out] at h ⊢; exact h
                  | 14 => rw [Hrgde14.out] at h ⊢; exact h
                  | 15 => rw [Hrgde15.out] at h ⊢; exact h
                  | 16 => rw [Hrgde16.out] at h ⊢; (exact HeldE.upd h hx (fun b hb e => by have := (HLT.out b e).2; omega))
                  | 17 => exact absurd rfl hji
                  | 18 => exact absurd (hr.symm.trans (show Reg.reach _ 6 18 17 = true from by kernel_rfl)) (by decide)
                  | jj + 19 => rw [HrgdhE.out]; trivial
                · simp only [if_neg hi] at hx
                  match jj with
                  | 0 => rw [Hrgde0.out] at h ⊢; exact h
                  | 1 => rw [Hrgde1.out] at h ⊢; exact h
                  | 2 => rw [Hrgde2.out] at h ⊢; exact h
                  | 3 => rw [Hrgde3.out] at h ⊢; exact h
                  | 4 => rw [Hrgde4.out] at h ⊢; exact h
                  | 5 => rw [Hrgde5.out] at h ⊢; exact h
                  | 6 => rw [Hrgde6.out] at h ⊢; exact h
                  | 7 => rw [Hrgde7.out] at h ⊢; exact h
                  | 8 => rw [Hrgde8.out] at h ⊢; exact h
                  | 9 => rw [Hrgde9.out] at h ⊢; exact h
                  | 10 => rw [Hrgde10.out] at h ⊢; exact h
                  | 11 => rw [Hrgde11.out] at h ⊢; exact h
                  | 12 => rw [Hrgde12.out] at h ⊢; exact h
                  | 13 => rw [Hrgde13.out] at h ⊢; exact h
                  | 14 => rw [Hrgde14.out] at h ⊢; exact h
                  | 15 => rw [Hrgde15.out] at h ⊢; exact h
                  | 16 => rw [Hrgde16.out] at h ⊢; (first | exact HeldE.below h hx | exact OwnE.below h hx)
                  | 17 => rw [Hrgde17.out] at h ⊢; (first | exact HeldE.below h hx | exact OwnE.below h hx)
                  | 18 => rw [Hrgde18.out] at h ⊢; (first | exact HeldE.below h hx | exact OwnE.below h hx)
                  | jj + 19 => rw [HrgdhE.out]; trivial
              simp only [Reg.frame, Reg.dsts, List.map_cons, List.map_nil, Mix.put_lit, List.set_cons_succ, List.set_cons_zero, Nat.zero_add, Nat.reduceAdd] at hFrgd
              refine ⟨?_, ?_⟩
              · refine ⟨?_, ?_, ?_, ?_, ?_, ?_, ?_, ?_, ?_, ?_, ?_, ?_, ?_, ?_, ?_, ?_, ?_, ?_, ?_, trivial⟩
                · intro Lq wq xq hh
                  have d18 := hh.old 18 (by kernel_rfl)
                  simp only [hFrgd, d18]
                  clear d18
                  refine .inl ⟨rfl, ?_⟩
                  unfold Reg.upon
                  have hk := Hrgdk.out 0 Lq wq (by decide)  hh.cls
                  have hx : Xrgd 0 wq wq := Hrgdx.out wq
                  have he : Ergd 0 (ov) wq := by rw [Hrgde0.out]
                  have HK := Lib.hid (And.intro hk (And.intro he hx))
                  clear hk hx he
                  go_simp
                  exact HK.out
                · intro Lq wq xq hh
                  simp only [hFrgd]
                  refine .inl ⟨rfl, ?_⟩
                  unfold Reg.upon
                  have hk := Hrgdk.out 1 Lq wq (by decide)  hh.cls
                  have hx : Xrgd 1 wq wq := Hrgdx.out wq
                  have he : Ergd 1 (.slice ao rl ca) wq := by rw [Hrgde1.out]
                  have HK := Lib.hid (And.intro hk (And.intro he hx))
                  clear hk hx he
                  go_simp
                  exact HK.out
                · intro Lq wq xq hh
                  simp only [hFrgd]
                  refine .inl ⟨rfl, ?_⟩
                  unfold Reg.upon
                  have hk := Hrgdk.out 2 Lq wq (by decide)  hh.cls
                  have hx : Xrgd 2 wq wq := Hrgdx.out wq
                  have he : Ergd 2 (.int .i64 (i : Int)) wq := by rw [Hrgde2.out]
                  have HK := Lib.hid (And.intro hk (And.intro he hx))
                  clear hk hx he
                  go_simp
                  exact HK.out
                · intro Lq wq xq hh
                  simp only [hFrgd]
                  refine .inl ⟨rfl, ?_⟩
                  unfold Reg.upon
                  have hk := Hrgdk.out 3 Lq wq (by decide)  hh.cls
                  have hx : Xrgd 3 wq wq := Hrgdx.out wq
                  have he : Ergd 3 (.int .i64 (k : Int)) wq := by rw [Hrgde3.out]
                  have HK := Lib.hid (And.intro hk (And.intro he hx))
                  clear hk hx he
                  go_simp
                  exact HK.out
                · intro Lq wq xq hh
                  have d1 : Ergd 1 (xq 1) wq := hh.val 1 (by kernel_rfl) (by kernel_rfl)
                  rw [Hrgde1.out] at d1
                  have d2 : Ergd 2 (xq 2) wq := hh.val 2 (by kernel_rfl) (by kernel_rfl)
                  rw [Hrgde2.out] at d2
                  have d3 : Ergd 3 (xq 3) wq := hh.val 3 (by kernel_rfl) (by kernel_rfl)
                  rw [Hrgde3.out] at d3
                  simp only [hFrgd, d1, d2, d3]
                  clear d1 d2 d3
                  refine .inl ⟨rfl, ?_⟩
                  unfold Reg.upon
                  have hc : Crgd Lq wq := hh.cls
                  rw [HrgdhC.out] at hc
                  go_simp
                  refine (HATK.out wq (HBW.out.trans ((hc.1 (Mix.one_un (hh.notYet 17 (by kernel_rfl)))).mono HBW.out.size))).mono ?_
                  rintro e w2 ⟨rfl, rfl⟩
                  exact ⟨_, rfl, Hrgdk.out 4 Lq wq (by decide)  hh.cls, (by rw [Hrgde4.out]; try rfl), Hrgdx.out _⟩
                · intro Lq wq xq hh
                  simp only [hFrgd]
                  refine .inl ⟨rfl, ?_⟩
                  unfold Reg.upon
                  have hk := Hrgdk.out 5 Lq wq (by decide)  hh.cls
                  have hx : Xrgd 5 wq wq := Hrgdx.out wq
                  have he : Ergd 5 (.slice ao rl ca) wq := by rw [Hrgde5.out]
                  have HK := Lib.hid (And.intro hk (And.intro he hx))
                  clear hk hx he
                  go_simp
                  exact HK.out
                · intro Lq wq xq hh
                  simp only [hFrgd]
                  refine .inl ⟨rfl, ?_⟩
                  unfold Reg.upon
                  have hk := Hrgdk.out 6 Lq wq (by decide)  hh.cls
                  have hx : Xrgd 6 wq wq := Hrgdx.out wq
                  have he : Ergd 6 (.int .i64 (k : Int)) wq := by rw [Hrgde6.out]
                  have HK := Lib.hid (And.intro hk (And.intro he hx))
                  clear hk hx he
                  go_simp
                  exact HK.out
                · intro Lq wq xq hh
                  simp only [hFrgd]
                  refine .inl ⟨rfl, ?_⟩
                  unfold Reg.upon
                  have hk := Hrgdk.out 7 Lq wq (by decide)  hh.cls
                  have hx : Xrgd 7 wq wq := Hrgdx.out wq
                  have he : Ergd 7 (.slice (some ⟨mb, mf, none⟩) cl mc) wq := by rw [Hrgde7.out]
                  have HK := Lib.hid (And.intro hk (And.intro he hx))
                  clear hk hx he
                  go_simp
                  exact HK.out
                · intro Lq wq xq hh
                  simp only [hFrgd]
                  refine .inl ⟨rfl, ?_⟩
                  unfold Reg.upon
                  have hk := Hrgdk.out 8 Lq wq (by decide)  hh.cls
                  have hx : Xrgd 8 wq wq := Hrgdx.out wq
                  have he : Ergd 8 (.int .i64 (k : Int)) wq := by rw [Hrgde8.out]
                  have HK := Lib.hid (And.intro hk (And.intro he hx))
                  clear hk hx he
                  go_simp
                  exact HK.out
                · intro Lq wq xq hh
                  have d7 : Ergd 7 (xq 7) wq := hh.val 7 (by kernel_rfl) (by kernel_rfl)
                  rw [Hrgde7.out] at d7
                  have d8 : Ergd 8 (xq 8) wq := hh.val 8 (by kernel_rfl) (by kernel_rfl)
                  rw [Hrgde8.out] at d8
                  simp only [hFrgd, d7, d8]
                  clear d7 d8
                  refine .inl ⟨rfl, ?_⟩
                  unfold Reg.upon
                  have hk := Hrgdk.out 9 Lq wq (by decide)  hh.cls
                  have hx : Xrgd 9 wq wq := Hrgdx.out wq
                  have he : Ergd 9 (.pointer (some ⟨mb, mf + k, none⟩)) wq := by rw [Hrgde9.out]
                  have HK := Lib.hid (And.intro hk (And.intro he hx))
                  clear hk hx he
                  go_simp
                  exact HK.out
                · intro Lq wq xq hh
                  have d9 : Ergd 9 (xq 9) wq := hh.val 9 (by kernel_rfl) (by kernel_rfl)
                  rw [Hrgde9.out] at d9
                  simp only [hFrgd, d9]
                  clear d9
                  refine .inl ⟨rfl, ?_⟩
                  unfold Reg.upon
                  have hc : Crgd Lq wq := hh.cls
                  rw [HrgdhC.out] at hc
                  have q0 := ((hc.1 (Mix.one_un (hh.notYet 17 (by kernel_rfl)))).cell (p := ⟨mb, mf + k, none⟩) HBB9.out.1).trans CMW.out
                  clear hc
                  have hk := Hrgdk.out 10 Lq wq (by decide)  hh.cls
                  have hx : Xrgd 10 wq wq := Hrgdx.out wq
                  have he : Ergd 10 (.int .i64 most) wq := by rw [Hrgde10.out]
                  have HK := Lib.hid (And.intro hk (And.intro he hx))
                  clear hk hx he
                  go_simp
                  exact HK.out
                · intro Lq wq xq hh
                  have d5 : Ergd 5 (xq 5) wq := hh.val 5 (by kernel_rfl) (by kernel_rfl)
                  rw [Hrgde5.out] at d5
                  have d6 : Ergd 6 (xq 6) wq := hh.val 6 (by kernel_rfl) (by kernel_rfl)
                  rw [Hrgde6.out] at d6
                  have d10 : Ergd 10 (xq 10) wq := hh.val 10 (by kernel_rfl) (by kernel_rfl)
                  rw [Hrgde10.out] at d10
                  simp only [hFrgd, d5, d6, d10]
                  clear d5 d6 d10
                  refine .inl ⟨rfl, ?_⟩
                  unfold Reg.upon
                  have hc : Crgd Lq wq := hh.cls
                  rw [HrgdhC.out] at hc
                  go_simp
                  refine (HWID.out wq (HBW.out.trans ((hc.1 (Mix.one_un (hh.notYet 17 (by kernel_rfl)))).mono HBW.out.size))).mono ?_
                  rintro e w2 ⟨rfl, hb⟩
                  exact ⟨_, rfl, Hrgdk.out 11 Lq w2 (by decide)  (Hrgdb.out Lq wq w2 hh.cls hb), (by rw [Hrgde11.out]; try rfl), Hrgdxb.out wq w2 hb⟩
                · intro Lq wq xq hh
                  simp only [hFrgd]
                  refine .inl ⟨rfl, ?_⟩
                  unfold Reg.upon
                  have hk := Hrgdk.out 12 Lq wq (by decide)  hh.cls
                  have hx : Xrgd 12 wq wq := Hrgdx.out wq
                  have he : Ergd 12 (.slice (some ⟨sb, sf, none⟩) cl sc) wq := by rw [Hrgde12.out]
                  have HK := Lib.hid (And.intro hk (And.intro he hx))
                  clear hk hx he
                  go_simp
                  exact HK.out
                · intro Lq wq xq hh
                  simp only [hFrgd]
                  refine .inl ⟨rfl, ?_⟩
                  unfold Reg.upon
                  have hk := Hrgdk.out 13 Lq wq (by decide)  hh.cls
                  have hx : Xrgd 13 wq wq := Hrgdx.out wq
                  have he : Ergd 13 (.int .i64 (k : Int)) wq := by rw [Hrgde13.out]
                  have HK := Lib.hid (And.intro hk (And.intro he hx))
                  clear hk hx he
                  go_simp
                  exact HK.out
                · intro Lq wq xq hh
                  have d12 : Ergd 12 (xq 12) wq := hh.val 12 (by kernel_rfl) (by kernel_rfl)
                  rw [Hrgde12.out] at d12
                  have d13 : Ergd 13 (xq 13) wq := hh.val 13 (by kernel_rfl) (by kernel_rfl)
                  rw [Hrgde13.out] at d13
                  simp only [hFrgd, d12, d13]
                  clear d12 d13
                  refine .inl ⟨rfl, ?_⟩
                  unfold Reg.upon
                  have hk := Hrgdk.out 14 Lq wq (by decide)  hh.cls
                  have hx : Xrgd 14 wq wq := Hrgdx.out wq
                  have he : Ergd 14 (.pointer (some ⟨sb, sf + k, none⟩)) wq := by rw [Hrgde14.out]
                  have HK := Lib.hid (And.intro hk (And.intro he hx))
                  clear hk hx he
                  go_simp
                  exact HK.out
                · intro Lq wq xq hh
                  have d14 : Ergd 14 (xq 14) wq := hh.val 14 (by kernel_rfl) (by kernel_rfl)
                  rw [Hrgde14.out] at d14
                  simp only [hFrgd, d14]
                  clear d14
                  refine .inl ⟨rfl, ?_⟩
                  unfold Reg.upon
                  have hc : Crgd Lq wq := hh.cls
                  rw [HrgdhC.out] at hc
                  have q0 := ((hc.1 (Mix.one_un (hh.notYet 17 (by kernel_rfl)))).cell (p := ⟨sb, sf + k, none⟩) HBB9.out.2).trans CSW.out
                  clear hc
                  have hk := Hrgdk.out 15 Lq wq (by decide)  hh.cls
                  have hx : Xrgd 15 wq wq := Hrgdx.out wq
                  have he : Ergd 15 (.int .i64 side) wq := by rw [Hrgde15.out]
                  have HK := Lib.hid (And.intro hk (And.intro he hx))
                  clear hk hx he
                  go_simp
                  exact HK.out
                · intro Lq wq xq hh
                  have d4 : Ergd 4 (xq 4) wq := hh.val 4 (by kernel_rfl) (by kernel_rfl)
                  rw [Hrgde4.out] at d4
                  have d11 : Ergd 11 (xq 11) wq := hh.val 11 (by kernel_rfl) (by kernel_rfl)
                  rw [Hrgde11.out] at d11
                  have d15 : Ergd 15 (xq 15) wq := hh.val 15 (by kernel_rfl) (by kernel_rfl)
                  rw [Hrgde15.out] at d15
                  simp only [hFrgd, d4, d11, d15]
                  clear d4 d11 d15
                  refine .inl ⟨rfl, ?_⟩
                  unfold Reg.upon
                  have hc : Crgd Lq wq := hh.cls
                  rw [HrgdhC.out] at hc
                  go_simp
                  refine (HFIT.out tv wq (HTV.out.below (HBW.out.trans ((hc.1 (Mix.one_un (hh.notYet 17 (by kernel_rfl)))).mono HBW.out.size)))).mono ?_
                  rintro e w2 ⟨v2, rfl, ho2, hb2⟩
                  have hsz := (hc.1 (Mix.one_un (hh.notYet 17 (by kernel_rfl)))).size
                  exact ⟨_, rfl, Hrgdk.out 16 Lq w2 (by decide) (Hrgdb.out Lq wq w2 hh.cls hb2), (by rw [Hrgde16.out]; exact (ownE_ints (Z := fun b => wb.heap.size ≤ b) ho2).held fun b hb _ => by omega), Hrgdxb.out wq w2 hb2⟩
                · intro Lq wq xq hh
                  have d0 : Ergd 0 (xq 0) wq := hh.val 0 (by kernel_rfl) (by kernel_rfl)
                  rw [Hrgde0.out] at d0
                  have d16 : Ergd 16 (xq 16) wq := hh.val 16 (by kernel_rfl) (by kernel_rfl)
                  rw [Hrgde16.out] at d16
                  simp only [hFrgd, d0]
                  clear d0
                  refine .inl ⟨rfl, ?_⟩
                  unfold Reg.upon
                  have hc : Crgd Lq wq := hh.cls
                  rw [HrgdhC.out] at hc
                  have hc7 := hc.1 hh.un
                  have hc8 := HBW.out.trans (hc7.mono HBW.out.size)
                  obtain ⟨v', w', hr, h1, h2, h3, h4⟩ := run_append_e (P := Tryz.prog) (E := intE .i32) (Z := fun _ => True) (w := wq) (B := w.heap.size) (ty := 21) 34 _ (.int .i32 0) 4 Tryz.underlying34 info_tT rfl (by decide) (HO.out.below hc7) (d16.zone (Y := fun b => True ∧ ov.ownBlock ≠ some b) (fun b _ hz => ⟨trivial, fun e => by have := (HLT.out b e).2; omega⟩)) (by have := HLA.out; have := HFL.out; omega) (by have := HLA.out; have := HFL.out; omega) hc8.size
                  have hu : Upd (fun b => ov.ownBlock = some b) wq w' := ⟨h2.os, h2.tape, h2.output, h3.size, fun b hb hn => h3.block b hb hn⟩
                  rw [exec_app rfl rfl rfl hr]
                  refine ⟨?_, ?_, ?_⟩
                  · rw [HrgdhC.out]
                    refine ⟨fun e => ?_, fun _ => hc8.trans h2⟩
                    rw [Mix.one_set (by rw [hh.size]; decide)] at e; exact absurd e (by decide)
                  · rw [Hrgde17.out]; exact h1
                  · rw [HrgdhX.out]; exact hu
                · intro Lq wq xq hh
                  have d17 : Ergd 17 (xq 17) wq := hh.val 17 (by kernel_rfl) (by kernel_rfl)
                  rw [Hrgde17.out] at d17
                  simp only [hFrgd]
                  refine .inl ⟨rfl, ?_⟩
                  unfold Reg.upon
                  have hk := Hrgdk.out 18 Lq wq (by decide) hh.cls
                  have hxrgd : Xrgd 18 wq wq := Hrgdx.out wq
                  have he : Ergd 18 (xq 17) wq := by rw [Hrgde18.out]; exact d17
                  have HK := Lib.hid (And.intro hk (And.intro he hxrgd))
                  clear hk hxrgd he
                  go_simp
                  exact HK.out
              intro xq wrgd hcrgd hvrgd
              rw [HrgdhC.out] at hcrgd
              simp only [hFrgd]
              have vrgd18 : Ergd 18 (xq 18) wrgd := hvrgd 18 (by decide)
              rw [Hrgde18.out] at vrgd18
              clear hvrgd hFrgd Hrgdk Hrgdx HrgdhE Hrgdc HrgdhC HrgdhX Hrgdb Hrgdxb Hrgde0 Hrgde1 Hrgde2 Hrgde3 Hrgde4 Hrgde5 Hrgde6 Hrgde7 Hrgde8 Hrgde9 Hrgde10 Hrgde11 Hrgde12 Hrgde13 Hrgde14 Hrgde15 Hrgde16 Hrgde17 Hrgde18
              obtain ⟨_, k2⟩ := hcrgd
              have HF2 := Lib.hid (k2 (by kernel_rfl))
              have HF1 := Lib.hid (show OwnE (intE .i32) (fun _ => True) wrgd w.heap.size 21 (xq 18) (lineC rows cols gap i (k + 1)) from by rw [HNX.out, ← HL1.out]; exact vrgd18)
              obtain ⟨ov9, hov9⟩ : ∃ ov9, ov9 = xq 18 := ⟨_, rfl⟩
              rw [← hov9] at HF1 ⊢
              clear k2 hov9 vrgd18
              go_wp2
              go_roundw
              case rel => exact ⟨k + 1, by omega, by go_num, HF1.out, HF2.out⟩
              case measure => simp [intOf] <;> omega
    · obtain rfl : k = cl := by omega
      have hg : decide ((k : Int) < (k : Int)) = false := by rw [decide_eq_false_iff_not]; omega
      go_wp2
      go_ret
      exact ⟨ok, (ret_eq (by first | rfl | (simp <;> omega))), HOK.out.ints, HBK.out⟩
end Go.Proofs.YtkpmmkokfllafaaGreat
