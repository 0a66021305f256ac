/- The reference's Items (21). -/
import Derived.Test.YtkpmmkokfllafaaGreatMg7
namespace Go.Proofs.YtkpmmkokfllafaaGreat
open Go.RowKit Go.ChangeShapes Go.WideShapes
theorem itm_at {Z : Zone} {w : World} {ao : Option Addr} {n cap : Nat} {L : List (Int × List Int)} (h : HeldE itmE Z w (.slice ao n cap) L) : n = L.length ∧ n ≤ cap ∧ ∀ i, i < L.length → ∃ b off tv, ao = some ⟨b, off, none⟩ ∧ b < w.heap.size ∧ Z b ∧
    w.cell? ⟨b, off + i * 2, none⟩ = some (.int .i64 (L.getD i (0, [])).1) ∧ w.cell? ⟨b, off + i * 2 + 1, none⟩ = some tv ∧ FrT Z w tv (L.getD i (0, [])).2 := by
  obtain ⟨h1, h2, h3⟩ := h.spots
  refine ⟨h1, h2, fun i hi => ?_⟩
  obtain ⟨b, off, rfl, hb, hz, C, hC, hr⟩ := h3 i hi
  obtain ⟨tv, rfl, ht⟩ := itm_rep.1 hr
  exact ⟨b, off, tv, rfl, hb, hz, hC 0 (by decide), hC 1 (by decide), ht⟩
theorem itm_below {Z : Zone} {w w' : World} {v : Value} {L : List Int} (h : FrT Z w v L) (hb : Below w.heap.size w w') : FrT Z w' v L := itm_upd (S := fun _ => False) h (Upd.ofBelow hb) (fun _ _ h => h)
theorem agg_below {Z : Zone} {w w' : World} {x : Value} {d : Int} {L : List Int} (h : ∃ v9, x = .agg #[.int .i64 d, v9] ∧ FrT Z w v9 L) (hb : Below w.heap.size w w') : ∃ v9, x = .agg #[.int .i64 d, v9] ∧ FrT Z w' v9 L := agg_upd (S := fun _ => False) h (Upd.ofBelow hb) (fun _ _ h => h)
theorem sliceL_bounds {xs : List Int} (hr : bounds32 xs) (p : Nat × Nat) (h1 : p.1 ≤ p.2) (h2 : p.2 ≤ xs.length) : bounds32 (sliceL xs p) := by
  intro i hi
  rw [sliceL_len xs p h1 h2] at hi
  have := hr (p.1 + i) (by omega)
  rw [show (sliceL xs p).getD i 0 = xs.getD (p.1 + i) 0 from by
    unfold sliceL
    simp [List.getD, List.getElem?_take, hi, List.getElem?_drop]]
  exact this
/-- What is known of the k-th cluster. -/
theorem cluA_at (xs : List Int) (k : Nat) (h : k < (clS xs).length) : (cluA xs).getD k [] = sliceL xs ((clS xs).getD k (0, 0)) ∧ 0 < ((cluA xs).getD k []).length ∧ ((cluA xs).getD k []).length ≤ xs.length ∧ (bounds32 xs → bounds32 ((cluA xs).getD k [])) ∧ (cluA xs).take (k + 1) = (cluA xs).take k ++ [(cluA xs).getD k []] := by
  have e : (cluA xs).getD k [] = sliceL xs ((clS xs).getD k (0, 0)) := by
    unfold cluA
    simp [List.getD, List.getElem?_map, List.getElem?_eq_getElem h]
  have h2 := clS_ok xs k h
  refine ⟨e, ?_, ?_, fun hr => ?_, by rw [e]; exact cluA_take xs k h⟩
  · rw [e, clS_at xs k h, sliceL_len _ _ (Nat.le_of_lt h2.1) h2.2]; simp only; omega
  · rw [e, clS_at xs k h, sliceL_len _ _ (Nat.le_of_lt h2.1) h2.2]; simp only; omega
  · rw [e, clS_at xs k h]; exact sliceL_bounds hr _ (Nat.le_of_lt h2.1) h2.2
theorem clA_len (xs : List Int) : (cluA xs).length = (clS xs).length := by unfold cluA; rw [List.length_map]
set_option maxRecDepth 100000 in
set_option maxHeartbeats 3000000 in
theorem ritems_any (Z : Zone) (v : Value) (xs : List Int) (w : World) (hx : HeldE (intE .i32) Z w v xs) (hn : xs.length ≤ 1000000) (hr : bounds32 xs) : Calls Tryz.prog 24 #[v] w (MadeItm w (itemsC xs)) := by
  have HCL := Lib.hid (rclus_any Z v xs w hx hn hr)
  have HA := Lib.hid (fun k h => cluA_at xs k h)
  have HML := Lib.hid (clA_len xs)
  have HMB := Lib.hid (clS_len xs)
  have HR := Lib.hid hr
  obtain ⟨ao, ca, rfl⟩ := hx.len
  clear hx hr
  go_enter Tryz.func24, Tryz.ntmps24
  go_wp2_with fail
  refine HCL.out.mono ?_
  rintro e w1 ⟨v1, rfl, ho1, b1⟩
  have hh1 := (ho1.held (Z := fun b => w.heap.size ≤ b) (fun b h _ => h)).lower
  obtain ⟨a1, c1, rfl⟩ := hh1.len
  have hcap := hh1.spots.2.1
  have HH := Lib.hid hh1
  have HB1 := Lib.hid b1
  obtain ⟨m, hm⟩ : ∃ m, m = (cluA xs).length := ⟨_, rfl⟩
  have HM := Lib.hid hm
  rw [← hm] at HH hcap ⊢
  have hmn : m ≤ 1000000 := by rw [hm, HML.out]; have := HMB.out; omega
  clear ho1 b1 hh1 hm
  go_wp2
  go_loopw [3, 5] (fun ov i wr => ∃ k : Nat, k ≤ m ∧ i = .int .i64 k ∧ OwnE itmE (fun b => w1.heap.size ≤ b) wr w1.heap.size 54 ov (itemsL ((cluA xs).take k)) ∧ Below w1.heap.size w1 wr) (fun _ i _ => m - (intOf i).toNat)
  case atStart => exact ⟨0, Nat.zero_le _, rfl, OwnE.nil _ _ _ _ _, Below.refl _ _⟩
  case round =>
    obtain ⟨k, hk, rfl, hown, hbw⟩ := hrel
    obtain ⟨ov, hov⟩ : ∃ ov, ov = u3 := ⟨_, rfl⟩
    rw [← hov] at hown ⊢
    obtain ⟨wk, hwk⟩ : ∃ wk, wk = wr := ⟨_, rfl⟩
    subst hwk
    have HO := Lib.hid hown
    have HBW := Lib.hid hbw
    clear hov hown hbw
    by_cases hlt : k < m
    · have hh := (HH.out.below HBW.out).spots.2.2
      obtain ⟨ba, oa, e1, hb1, hz1, C1, q1, tv, hC1, ht⟩ := hh k (by rw [← HM.out]; exact hlt)
      subst e1 hC1
      have d1 : wk.cell? ⟨ba, oa + k, none⟩ = some tv := by have := q1 0 (by decide); simpa [show rowE.size = 1 from rfl] using this
      have ha := HA.out k (by rw [← HML.out, ← HM.out]; exact hlt)
      rw [show rowE.zero = ([] : List Int) from rfl] at ht
      have htk := ha.2.2.2.2
      have htr := ha.2.2.2.1 HR.out
      have htl := ha.2.1
      have htm := ha.2.2.1
      obtain ⟨T, hT⟩ : ∃ T, T = (cluA xs).getD k [] := ⟨_, rfl⟩
      rw [← hT] at ht htk htr htl htm
      have HSIL := Lib.hid (show silB (T.getD 0 0) = true → itemsL ((cluA xs).take (k + 1)) = itemsL ((cluA xs).take k) from fun h => by rw [htk, itemsL_sil _ h])
      have HADD := Lib.hid (show silB (T.getD 0 0) = false → itemsL ((cluA xs).take (k + 1)) = itemsL ((cluA xs).take k) ++ [(wdC T, T.take 16)] from fun h => by rw [htk, itemsL_add _ h])
      have hpl : (itemsL ((cluA xs).take k)).length ≤ 1000000 := by have := itemsL_len ((cluA xs).take k); rw [List.length_take] at this; omega
      obtain ⟨CN, hCN⟩ : ∃ CN, CN = itemsL ((cluA xs).take (k + 1)) := ⟨_, rfl⟩
      obtain ⟨CP, hCP⟩ : ∃ CP, CP = itemsL ((cluA xs).take k) := ⟨_, rfl⟩
      have HCN := Lib.hid hCN
      rw [← hCN, ← hCP] at HSIL HADD
      rw [← hCP] at HO hpl
      have HT := Lib.hid ht
      have HTL := Lib.hid (show 0 < T.length ∧ T.length ≤ 1000000 from ⟨htl, by omega⟩)
      have HTR := Lib.hid htr
      have HPL := Lib.hid hpl
      have HD1 := Lib.hid d1
      have HBA := Lib.hid hb1
      have HWS := Lib.hid HBW.out.size
      have HWI := Lib.hid (show ∀ w', Below wk.heap.size wk w' → Calls Tryz.prog 38 #[tv] w' (Gives w' (.int .i64 (wdC T))) from fun w' h => rwide_any _ tv T w' (HT.out.below h) (fun b hb => by have := h.size; have := HWS.out; omega) HTL.out.1 HTL.out.2 HTR.out)
      have HFI := Lib.hid (show ∀ w', Below wk.heap.size wk w' → Calls Tryz.prog 39 #[tv] w' (Cloned 21 .i32 w' (T.take 16)) from fun w' h => rfirst_any _ tv T w' (HT.out.below h) (fun b hb => by have := h.size; have := HWS.out; omega) HTL.out.1 HTL.out.2)
      have hwb := wdC_bd T
      obtain ⟨wd, hwd⟩ : ∃ wd, wd = wdC T := ⟨_, rfl⟩
      rw [← hwd] at HWI HADD hwb
      obtain ⟨F, hF⟩ : ∃ F, F = T.take 16 := ⟨_, rfl⟩
      rw [← hF] at HFI HADD
      have hwk : IntKind.i64.wrap ((k : Int) + 1) = (k : Int) + 1 := by rw [IntKind.wrap_i64]; omega
      have hki : (k : Int) < (m : Int) := by omega
      clear hh q1 ht htk htr htl htm hCN hCP hT hwd hF hpl
      have hkc : k < c1 := by omega
      rcases hwb with ⟨hs, hw0⟩ | ⟨hs, hw1, hw2⟩
      · have HE := Lib.hid (HSIL.out hs)
        have hg : decide (0 < wd) = false := by simpa using (show wd ≤ 0 by omega)
        clear hs hw0
        go_wp2_with fail
        refine (HWI.out _ (Below.refl _ _)).mono ?_
        rintro e w2 ⟨rfl, b2⟩
        have HF1 := Lib.hid (show OwnE itmE (fun b => w1.heap.size ≤ b) w2 w1.heap.size 54 ov (itemsL ((cluA xs).take (k + 1))) from by rw [← HCN.out, HE.out]; exact HO.out.below b2)
        have HB2 := Lib.hid (HBW.out.trans (b2.mono HBW.out.size))
        clear b2
        go_wp2
        go_roundw
        case rel => exact ⟨k + 1, by omega, by go_num, HF1.out, HB2.out⟩
        case measure => simp [intOf] <;> omega
      · have HE := Lib.hid (HADD.out hs)
        have hg : decide (0 < wd) = true := by simpa using (show 0 < wd by omega)
        clear hs hw1 hw2
        go_wp2_with fail
        refine (HWI.out _ (Below.refl _ _)).mono ?_
        rintro e w2 ⟨rfl, b2⟩
        have HO2 := Lib.hid (HO.out.below b2)
        have HBW2 := Lib.hid (HBW.out.trans (b2.mono HBW.out.size))
        have HB2 := Lib.hid b2
        have HLO := Lib.hid HO2.out.lt
        have HSZ := Lib.hid (Nat.le_trans HWS.out b2.size)
        clear b2 d1
        have hd1 : w2.cell? ⟨ba, oa + k, none⟩ = some tv := (HB2.out.cell (p := ⟨ba, oa + k, none⟩) HBA.out).trans HD1.out
        have HD2 := Lib.hid hd1
        have HBA2 := Lib.hid (show ba < w2.heap.size from World.block_lt_of_cell? _ _ hd1)
        clear hd1
        go_wp2
        obtain ⟨Erg, hErg⟩ : ∃ EE : Nat → Value → World → Prop, EE = fun jj xx ww => match jj with
            | 0 => xx = ov
            | 1 => xx = .slice (some ⟨ba, oa, none⟩) m c1
            | 2 => xx = .int .i64 (k : Int)
            | 3 => xx = .pointer (some ⟨ba, oa + k, none⟩)
            | 4 => xx = tv
            | 5 => xx = .int .i64 wd
            | 6 => xx = .slice (some ⟨ba, oa, none⟩) m c1
            | 7 => xx = .int .i64 (k : Int)
            | 8 => xx = .pointer (some ⟨ba, oa + k, none⟩)
            | 9 => xx = tv
            | 10 => (fun x w' => FrT (fun b => w2.heap.size ≤ b) w' x F) xx ww
            | 11 => (fun x w' => ∃ v9, x = .agg #[.int .i64 wd, v9] ∧ FrT (fun b => w2.heap.size ≤ b) w' v9 F) xx ww
            | 12 => (fun x w' => HeldE itmE (fun b => w2.heap.size ≤ b) w' x [(wd, F)]) xx ww
            | 13 => (fun x w' => OwnE itmE (fun b => w1.heap.size ≤ b) w' w1.heap.size 54 x (CP ++ [(wd, F)])) xx ww
            | 14 => (fun x w' => OwnE itmE (fun b => w1.heap.size ≤ b) w' w1.heap.size 54 x (CP ++ [(wd, F)])) xx ww
            | _ => True := ⟨_, rfl⟩
        have erg0 : ∀ xx ww, Erg 0 xx ww = (xx = ov) := fun xx ww => congrFun (congrFun (congrFun hErg 0) xx) ww
        have erg1 : ∀ xx ww, Erg 1 xx ww = (xx = .slice (some ⟨ba, oa, none⟩) m c1) := fun xx ww => congrFun (congrFun (congrFun hErg 1) xx) ww
        have erg2 : ∀ xx ww, Erg 2 xx ww = (xx = .int .i64 (k : Int)) := fun xx ww => congrFun (congrFun (congrFun hErg 2) xx) ww
        have erg3 : ∀ xx ww, Erg 3 xx ww = (xx = .pointer (some ⟨ba, oa + k, none⟩)) := fun xx ww => congrFun (congrFun (congrFun hErg 3) xx) ww
        have erg4 : ∀ xx ww, Erg 4 xx ww = (xx = tv) := fun xx ww => congrFun (congrFun (congrFun hErg 4) xx) ww
        have erg5 : ∀ xx ww, Erg 5 xx ww = (xx = .int .i64 wd) := fun xx ww => congrFun (congrFun (congrFun hErg 5) xx) ww
        have erg6 : ∀ xx ww, Erg 6 xx ww = (xx = .slice (some ⟨ba, oa, none⟩) m c1) := fun xx ww => congrFun (congrFun (congrFun hErg 6) xx) ww
        have erg7 : ∀ xx ww, Erg 7 xx ww = (xx = .int .i64 (k : Int)) := fun xx ww => congrFun (congrFun (congrFun hErg 7) xx) ww
        have erg8 : ∀ xx ww, Erg 8 xx ww = (xx = .pointer (some ⟨ba, oa + k, none⟩)) := fun xx ww => congrFun (congrFun (congrFun hErg 8) xx) ww
        have erg9 : ∀ xx ww, Erg 9 xx ww = (xx = tv) := fun xx ww => congrFun (congrFun (congrFun hErg 9) xx) ww
        have erg10 : ∀ xx ww, Erg 10 xx ww = ((fun x w' => FrT (fun b => w2.heap.size ≤ b) w' x F) xx ww) := fun xx ww => congrFun (congrFun (congrFun hErg 10) xx) ww
        have erg11 : ∀ xx ww, Erg 11 xx ww = ((fun x w' => ∃ v9, x = .agg #[.int .i64 wd, v9] ∧ FrT (fun b => w2.heap.size ≤ b) w' v9 F) xx ww) := fun xx ww => congrFun (congrFun (congrFun hErg 11) xx) ww
        have erg12 : ∀ xx ww, Erg 12 xx ww = ((fun x w' => HeldE itmE (fun b => w2.heap.size ≤ b) w' x [(wd, F)]) xx ww) := fun xx ww => congrFun (congrFun (congrFun hErg 12) xx) ww
        have erg13 : ∀ xx ww, Erg 13 xx ww = ((fun x w' => OwnE itmE (fun b => w1.heap.size ≤ b) w' w1.heap.size 54 x (CP ++ [(wd, F)])) xx ww) := fun xx ww => congrFun (congrFun (congrFun hErg 13) xx) ww
        have erg14 : ∀ xx ww, Erg 14 xx ww = ((fun x w' => OwnE itmE (fun b => w1.heap.size ≤ b) w' w1.heap.size 54 x (CP ++ [(wd, F)])) xx ww) := fun xx ww => congrFun (congrFun (congrFun hErg 14) xx) ww
        obtain ⟨Crg, hCrg⟩ : ∃ CC : Array Bool → World → Prop, CC = fun L8 w' => Below w1.heap.size w1 w' ∧ (Mix.one L8 13 = 0 → OwnE itmE (fun b => w1.heap.size ≤ b) w' w1.heap.size 54 ov CP ∧ Below w2.heap.size w2 w') ∧ w2.heap.size ≤ w'.heap.size := ⟨_, rfl⟩
        have krg : ∀ i L w, i ≠ 13 →  Crg L w → Crg (L.setIfInBounds i true) w := by
          intro i L w q13 h
          rw [hCrg] at h ⊢
          simp only [Mix.one_ne q13]; exact h
        obtain ⟨Xrg, hXrg⟩ : ∃ XX : Nat → World → World → Prop, XX = fun kk ww1 ww2 => if kk = 13 then (fun x y => Upd (fun b => ov.ownBlock = some b) x y) ww1 ww2 else (fun x y => Below x.heap.size x y) ww1 ww2 := ⟨_, rfl⟩
        have xrg : ∀ {k : Nat} (w : World), Xrg k w w := by
          intro k w
          rw [hXrg]
          show if k = 13 then _ else _
          split
          · exact Upd.refl _ _
          · exact Below.refl _ _
        have crg : Crg (Array.replicate 15 false) w2.drew := by rw [hCrg]; exact ⟨HBW2.out.drew, fun _ => ⟨HO2.out, (Below.refl _ _).drew⟩, Nat.le_refl _⟩
        have brg : ∀ L w w1, Crg L w → Below w.heap.size w w1 → Crg L w1 := by
          intro L w w1 h hb
          rw [hCrg] at h ⊢
          (obtain ⟨q1, q2, q3⟩ := h; exact ⟨q1.trans (hb.mono q1.size), fun e => ⟨(q2 e).1.below hb, (q2 e).2.trans (hb.mono (q2 e).2.size)⟩, Nat.le_trans q3 hb.size⟩)
        have xbrg : ∀ {k : Nat} (w w1 : World), Below w.heap.size w w1 → Xrg k w w1 := by
          intro k w w1 hb
          rw [hXrg]
          show if k = 13 then _ else _
          split
          · exact Upd.ofBelow hb
          · exact hb
        have Hrgb := Lib.hid brg
        have Hrgxb : Go.RowKit.Hid (∀ {k : Nat} (w w1 : World), Below w.heap.size w w1 → Xrg k w w1) := @xbrg
        clear brg xbrg
        have HrghE := Lib.hid hErg
        clear hErg
        have Hrgk := Lib.hid krg
        have Hrgx : Go.RowKit.Hid (∀ {k : Nat} (w : World), Xrg k w w) := @xrg
        have Hrgc := Lib.hid crg
        have HrghC := Lib.hid hCrg
        have HrghX := Lib.hid hXrg
        have Hrge0 := Lib.hid erg0
        have Hrge1 := Lib.hid erg1
        have Hrge2 := Lib.hid erg2
        have Hrge3 := Lib.hid erg3
        have Hrge4 := Lib.hid erg4
        have Hrge5 := Lib.hid erg5
        have Hrge6 := Lib.hid erg6
        have Hrge7 := Lib.hid erg7
        have Hrge8 := Lib.hid erg8
        have Hrge9 := Lib.hid erg9
        have Hrge10 := Lib.hid erg10
        have Hrge11 := Lib.hid erg11
        have Hrge12 := Lib.hid erg12
        have Hrge13 := Lib.hid erg13
        have Hrge14 := Lib.hid erg14
        clear krg xrg crg hCrg hXrg erg0 erg1 erg2 erg3 erg4 erg5 erg6 erg7 erg8 erg9 erg10 erg11 erg12 erg13 erg14
        go_wp2_with fail
        refine RegX.regionF Erg Crg Xrg ?_ (by kernel_rfl) (by kernel_rfl) (by kernel_rfl) Hrgc.out (fun Frg hFrg => ?_)
        · intro ii jj x w w1 hji hr hx h
          rw [HrghX.out] at hx
          by_cases hi : ii = 13
          · subst hi
            simp only [if_pos] at hx
            match jj with
            | 0 => rw [Hrge0.out] at h ⊢; exact h
            | 1 => rw [Hrge1.out] at h ⊢; exact h
            | 2 => rw [Hrge2.out] at h ⊢; exact h
            | 3 => rw [Hrge3.out] at h ⊢; exact h
            | 4 => rw [Hrge4.out] at h ⊢; exact h
            | 5 => rw [Hrge5.out] at h ⊢; exact h
            | 6 => rw [Hrge6.out] at h ⊢; exact h
            | 7 => rw [Hrge7.out] at h ⊢; exact h
            | 8 => rw [Hrge8.out] at h ⊢; exact h
            | 9 => rw [Hrge9.out] at h ⊢; exact h
            | 10 => rw [Hrge10.out] at h ⊢; (first | exact (itm_upd h hx (fun b hb e => by have := (HLO.out b e).2; omega)) | exact (agg_upd h hx (fun b hb e => by have := (HLO.out b e).2; omega)) | exact (HeldE.upd h hx (fun b hb e => by have := (HLO.out b e).2; omega)))
            | 11 => rw [Hrge11.out] at h ⊢; (first | exact (itm_upd h hx (fun b hb e => by have := (HLO.out b e).2; omega)) | exact (agg_upd h hx (fun b hb e => by have := (HLO.out b e).2; omega)) | exact (HeldE.upd h hx (fun b hb e => by have := (HLO.out b e).2; omega)))
            | 12 => rw [Hrge12.out] at h ⊢; (first | exact (itm_upd h hx (fun b hb e => by have := (HLO.out b e).2; omega)) | exact (agg_upd h hx (fun b hb e => by have := (HLO.out b e).2; omega)) | exact (HeldE.upd h hx (fun b hb e => by have := (HLO.out b e).2; omega)))
            | 13 => exact absurd rfl hji
            | 14 => exact absurd (hr.symm.trans (show Reg.reach _ 6 14 13 = true from by kernel_rfl)) (by decide)
            | jj + 15 => rw [HrghE.out]; trivial
          · simp only [if_neg hi] at hx
            match jj with
            | 0 => rw [Hrge0.out] at h ⊢; exact h
            | 1 => rw [Hrge1.out] at h ⊢; exact h
            | 2 => rw [Hrge2.out] at h ⊢; exact h
            | 3 => rw [Hrge3.out] at h ⊢; exact h
            | 4 => rw [Hrge4.out] at h ⊢; exact h
            | 5 => rw [Hrge5.out] at h ⊢; exact h
            | 6 => rw [Hrge6.out] at h ⊢; exact h
            | 7 => rw [Hrge7.out] at h ⊢; exact h
            | 8 => rw [Hrge8.out] at h ⊢; exact h
            | 9 => rw [Hrge9.out] at h ⊢; exact h
            | 10 => rw [Hrge10.out] at h ⊢; (first | exact HeldE.below h hx | exact OwnE.below h hx | exact itm_below h hx | exact agg_below h hx)
            | 11 => rw [Hrge11.out] at h ⊢; (first | exact HeldE.below h hx | exact OwnE.below h hx | exact itm_below h hx | exact agg_below h hx)
            | 12 => rw [Hrge12.out] at h ⊢; (first | exact HeldE.below h hx | exact OwnE.below h hx | exact itm_below h hx | exact agg_below h hx)
            | 13 => rw [Hrge13.out] at h ⊢; (first | exact HeldE.below h hx | exact OwnE.below h hx | exact itm_below h hx | exact agg_below h hx)
            | 14 => rw [Hrge14.out] at h ⊢; (first | exact HeldE.below h hx | exact OwnE.below h hx | exact itm_below h hx | exact agg_below h hx)
            | jj + 15 => rw [HrghE.out]; trivial
        simp only [Reg.frame, Reg.dsts, List.map_cons, List.map_nil, Mix.put_lit, List.set_cons_succ, List.set_cons_zero, Nat.zero_add, Nat.reduceAdd] at hFrg
        refine ⟨?_, ?_⟩
        · refine ⟨?_, ?_, ?_, ?_, ?_, ?_, ?_, ?_, ?_, ?_, ?_, ?_, ?_, ?_, ?_, trivial⟩
          · intro Lq wq xq hh
            have d14 := hh.old 14 (by kernel_rfl)
            simp only [hFrg, d14]
            clear d14
            refine .inl ⟨rfl, ?_⟩
            unfold Reg.upon
            have hk := Hrgk.out 0 Lq wq (by decide)  hh.cls
            have hx : Xrg 0 wq wq := Hrgx.out wq
            have he : Erg 0 (ov) wq := by rw [Hrge0.out]
            have HK := Lib.hid (And.intro hk (And.intro he hx))
            clear hk hx he
            go_simp
            exact HK.out
          · intro Lq wq xq hh
            simp only [hFrg]
            refine .inl ⟨rfl, ?_⟩
            unfold Reg.upon
            have hk := Hrgk.out 1 Lq wq (by decide)  hh.cls
            have hx : Xrg 1 wq wq := Hrgx.out wq
            have he : Erg 1 (.slice (some ⟨ba, oa, none⟩) m c1) wq := by rw [Hrge1.out]
            have HK := Lib.hid (And.intro hk (And.intro he hx))
            clear hk hx he
            go_simp
            exact HK.out
          · intro Lq wq xq hh
            simp only [hFrg]
            refine .inl ⟨rfl, ?_⟩
            unfold Reg.upon
            have hk := Hrgk.out 2 Lq wq (by decide)  hh.cls
            have hx : Xrg 2 wq wq := Hrgx.out wq
            have he : Erg 2 (.int .i64 (k : Int)) wq := by rw [Hrge2.out]
            have HK := Lib.hid (And.intro hk (And.intro he hx))
            clear hk hx he
            go_simp
            exact HK.out
          · intro Lq wq xq hh
            have d1 : Erg 1 (xq 1) wq := hh.val 1 (by kernel_rfl) (by kernel_rfl)
            rw [Hrge1.out] at d1
            have d2 : Erg 2 (xq 2) wq := hh.val 2 (by kernel_rfl) (by kernel_rfl)
            rw [Hrge2.out] at d2
            simp only [hFrg, d1, d2]
            clear d1 d2
            refine .inl ⟨rfl, ?_⟩
            unfold Reg.upon
            have hk := Hrgk.out 3 Lq wq (by decide)  hh.cls
            have hx : Xrg 3 wq wq := Hrgx.out wq
            have he : Erg 3 (.pointer (some ⟨ba, oa + k, none⟩)) wq := by rw [Hrge3.out]
            have HK := Lib.hid (And.intro hk (And.intro he hx))
            clear hk hx he
            go_simp
            exact HK.out
          · intro Lq wq xq hh
            have d3 : Erg 3 (xq 3) wq := hh.val 3 (by kernel_rfl) (by kernel_rfl)
            rw [Hrge3.out] at d3
            simp only [hFrg, d3]
            clear d3
            refine .inl ⟨rfl, ?_⟩
            unfold Reg.upon
            have hc : Crg Lq wq := hh.cls
            rw [HrghC.out] at hc
            have q1 := ((hc.2.1 (Mix.one_un (hh.notYet 13 (by kernel_rfl)))).2.cell (p := ⟨ba, oa + k, none⟩) HBA2.out).trans HD2.out
            clear hc
            have hk := Hrgk.out 4 Lq wq (by decide)  hh.cls
            have hx : Xrg 4 wq wq := Hrgx.out wq
            have he : Erg 4 (tv) wq := by rw [Hrge4.out]
            have HK := Lib.hid (And.intro hk (And.intro he hx))
            clear hk hx he
            go_simp
            exact HK.out
          · intro Lq wq xq hh
            have d4 : Erg 4 (xq 4) wq := hh.val 4 (by kernel_rfl) (by kernel_rfl)
            rw [Hrge4.out] at d4
            simp only [hFrg, d4]
            clear d4
            refine .inl ⟨rfl, ?_⟩
            unfold Reg.upon
            have hc : Crg Lq wq := hh.cls
            rw [HrghC.out] at hc
            have hcW := HB2.out.trans ((hc.2.1 (Mix.one_un (hh.notYet 13 (by kernel_rfl)))).2.mono HB2.out.size)
            go_simp
            refine (HWI.out wq hcW).mono ?_
            rintro e w5 ⟨rfl, hb⟩
            exact ⟨_, rfl, Hrgk.out 5 Lq w5 (by decide) (Hrgb.out Lq wq w5 hh.cls hb), (by rw [Hrge5.out]), Hrgxb.out wq w5 hb⟩
          · intro Lq wq xq hh
            simp only [hFrg]
            refine .inl ⟨rfl, ?_⟩
            unfold Reg.upon
            have hk := Hrgk.out 6 Lq wq (by decide)  hh.cls
            have hx : Xrg 6 wq wq := Hrgx.out wq
            have he : Erg 6 (.slice (some ⟨ba, oa, none⟩) m c1) wq := by rw [Hrge6.out]
            have HK := Lib.hid (And.intro hk (And.intro he hx))
            clear hk hx he
            go_simp
            exact HK.out
          · intro Lq wq xq hh
            simp only [hFrg]
            refine .inl ⟨rfl, ?_⟩
            unfold Reg.upon
            have hk := Hrgk.out 7 Lq wq (by decide)  hh.cls
            have hx : Xrg 7 wq wq := Hrgx.out wq
            have he : Erg 7 (.int .i64 (k : Int)) wq := by rw [Hrge7.out]
            have HK := Lib.hid (And.intro hk (And.intro he hx))
            clear hk hx he
            go_simp
            exact HK.out
          · intro Lq wq xq hh
            have d6 : Erg 6 (xq 6) wq := hh.val 6 (by kernel_rfl) (by kernel_rfl)
            rw [Hrge6.out] at d6
            have d7 : Erg 7 (xq 7) wq := hh.val 7 (by kernel_rfl) (by kernel_rfl)
            rw [Hrge7.out] at d7
            simp only [hFrg, d6, d7]
            clear d6 d7
            refine .inl ⟨rfl, ?_⟩
            unfold Reg.upon
            have hk := Hrgk.out 8 Lq wq (by decide)  hh.cls
            have hx : Xrg 8 wq wq := Hrgx.out wq
            have he : Erg 8 (.pointer (some ⟨ba, oa + k, none⟩)) wq := by rw [Hrge8.out]
            have HK := Lib.hid (And.intro hk (And.intro he hx))
            clear hk hx he
            go_simp
            exact HK.out
          · intro Lq wq xq hh
            have d8 : Erg 8 (xq 8) wq := hh.val 8 (by kernel_rfl) (by kernel_rfl)
            rw [Hrge8.out] at d8
            simp only [hFrg, d8]
            clear d8
            refine .inl ⟨rfl, ?_⟩
            unfold Reg.upon
            have hc : Crg Lq wq := hh.cls
            rw [HrghC.out] at hc
            have q1 := ((hc.2.1 (Mix.one_un (hh.notYet 13 (by kernel_rfl)))).2.cell (p := ⟨ba, oa + k, none⟩) HBA2.out).trans HD2.out
            clear hc
            have hk := Hrgk.out 9 Lq wq (by decide)  hh.cls
            have hx : Xrg 9 wq wq := Hrgx.out wq
            have he : Erg 9 (tv) wq := by rw [Hrge9.out]
            have HK := Lib.hid (And.intro hk (And.intro he hx))
            clear hk hx he
            go_simp
            exact HK.out
          · intro Lq wq xq hh
            have d9 : Erg 9 (xq 9) wq := hh.val 9 (by kernel_rfl) (by kernel_rfl)
            rw [Hrge9.out] at d9
            simp only [hFrg, d9]
            clear d9
            refine .inl ⟨rfl, ?_⟩
            unfold Reg.upon
            have hc : Crg Lq wq := hh.cls
            rw [HrghC.out] at hc
            have hcW := HB2.out.trans ((hc.2.1 (Mix.one_un (hh.notYet 13 (by kernel_rfl)))).2.mono HB2.out.size)
            go_simp
            refine (HFI.out wq hcW).mono ?_
            rintro e w5 ⟨v2, rfl, ho2, hb⟩
            refine ⟨_, rfl, Hrgk.out 10 Lq w5 (by decide) (Hrgb.out Lq wq w5 hh.cls hb), ?_, Hrgxb.out wq w5 hb⟩
            rw [Hrge10.out]
            exact fr_own ho2 (fun b h1 _ => Nat.le_trans hc.2.2 h1)
          · intro Lq wq xq hh
            have d5 : Erg 5 (xq 5) wq := hh.val 5 (by kernel_rfl) (by kernel_rfl)
            rw [Hrge5.out] at d5
            have d10 : Erg 10 (xq 10) wq := hh.val 10 (by kernel_rfl) (by kernel_rfl)
            rw [Hrge10.out] at d10
            simp only [hFrg, d5]
            clear d5
            refine .inl ⟨rfl, ?_⟩
            unfold Reg.upon
            obtain ⟨a9, c9, e9⟩ := d10.1.len
            rw [e9] at d10 ⊢
            go_simp
            exact ⟨Hrgk.out 11 Lq wq (by decide) hh.cls, (by rw [Hrge11.out]; exact ⟨_, rfl, d10⟩), Hrgx.out _⟩
          · intro Lq wq xq hh
            have d11 : Erg 11 (xq 11) wq := hh.val 11 (by kernel_rfl) (by kernel_rfl)
            rw [Hrge11.out] at d11
            simp only [hFrg]
            refine .inl ⟨rfl, ?_⟩
            unfold Reg.upon
            obtain ⟨v9, e9, h9⟩ := d11
            obtain ⟨a9, c9, e8⟩ := h9.1.len
            rw [e9]
            subst e8
            have hc : Crg Lq wq := hh.cls
            rw [HrghC.out] at hc
            have hb := (Below.refl wq.heap.size wq).alloc (Nat.le_refl _) (.cells #[.int .i64 wd, .slice a9 F.length c9] 54)
            have hh3 : HeldE itmE (fun b => w2.heap.size ≤ b) (wq.alloc (.cells [.int .i64 wd, .slice a9 F.length c9].toArray 54)) (.slice (some ⟨wq.heap.size, 0, none⟩) 1 1) [(wd, F)] := heldE_one (E := itmE) (Y := fun b => w2.heap.size ≤ b) [.int .i64 wd, .slice a9 F.length c9] (wd, F) (itm_rep.2 ⟨_, rfl, h9⟩) (fun b _ h => h) hc.2.2
            go_simp
            refine ⟨Hrgk.out 12 Lq _ (by decide) (Hrgb.out Lq wq _ hh.cls hb), ?_, Hrgxb.out wq _ hb⟩
            rw [Hrge12.out]
            exact hh3
          · intro Lq wq xq hh
            have d0 : Erg 0 (xq 0) wq := hh.val 0 (by kernel_rfl) (by kernel_rfl)
            rw [Hrge0.out] at d0
            have d12 : Erg 12 (xq 12) wq := hh.val 12 (by kernel_rfl) (by kernel_rfl)
            rw [Hrge12.out] at d12
            simp only [hFrg, d0]
            clear d0
            refine .inl ⟨rfl, ?_⟩
            unfold Reg.upon
            have hc : Crg Lq wq := hh.cls
            rw [HrghC.out] at hc
            have hc4 := hc.2.1 hh.un
            obtain ⟨v', w', hr, h1, h2, h3, h4⟩ := run_append_e (P := Tryz.prog) (E := itmE) (Z := fun b => w1.heap.size ≤ b) (w := wq) (B := w1.heap.size) (ty := 54) 51 _ (.agg #[.int .i64 0, .slice none 0 0]) 32 Tryz.underlying51 info_item rfl (by decide) hc4.1 (d12.zoned (Y := fun b => w1.heap.size ≤ b ∧ ov.ownBlock ≠ some b) (fun b _ hz => ⟨Nat.le_trans HSZ.out hz, fun e => by have := (HLO.out b e).2; omega⟩)) (by simp only [List.length_singleton]; have := HPL.out; omega) (by simp only [List.length_singleton]; have := HPL.out; omega) (Nat.le_trans HSZ.out hc.2.2)
            rw [exec_app rfl rfl rfl hr]
            have hu : Upd (fun b => ov.ownBlock = some b) wq w' := ⟨h2.os, h2.tape, h2.output, h3.size, fun b hb hn => h3.block b hb hn⟩
            refine ⟨?_, ?_, ?_⟩
            · rw [HrghC.out]
              refine ⟨hc.1.trans h2, fun e => ?_, Nat.le_trans hc.2.2 h2.size⟩
              rw [Mix.one_set (by rw [hh.size]; decide)] at e; exact absurd e (by decide)
            · rw [Hrge13.out]; exact h1
            · rw [HrghX.out]; exact hu
          · intro Lq wq xq hh
            have d13 : Erg 13 (xq 13) wq := hh.val 13 (by kernel_rfl) (by kernel_rfl)
            rw [Hrge13.out] at d13
            simp only [hFrg]
            refine .inl ⟨rfl, ?_⟩
            unfold Reg.upon
            go_simp
            exact ⟨Hrgk.out 14 Lq wq (by decide) hh.cls, (by rw [Hrge14.out]; exact d13), Hrgx.out _⟩
        intro xq wrg hcrg hvrg
        rw [HrghC.out] at hcrg
        simp only [hFrg]
        have vrg14 : Erg 14 (xq 14) wrg := hvrg 14 (by decide)
        rw [Hrge14.out] at vrg14
        clear hvrg hFrg Hrgk Hrgx HrghE Hrgc HrghC HrghX Hrgb Hrgxb Hrge0 Hrge1 Hrge2 Hrge3 Hrge4 Hrge5 Hrge6 Hrge7 Hrge8 Hrge9 Hrge10 Hrge11 Hrge12 Hrge13 Hrge14
        have HF := Lib.hid (show OwnE itmE (fun b => w1.heap.size ≤ b) wrg w1.heap.size 54 (xq 14) (itemsL ((cluA xs).take (k + 1))) from by rw [← HCN.out, HE.out]; exact vrg14)
        have HB := Lib.hid hcrg.1
        clear hcrg vrg14
        go_wp2
        go_roundw
        case rel => exact ⟨k + 1, by omega, by go_num, HF.out, HB.out⟩
        case measure => simp [intOf] <;> omega
    · obtain rfl : k = m := by omega
      have HF := Lib.hid (show MadeItm w (itemsC xs) (.returned ov) wk from by
        have h := HO.out
        rw [List.take_of_length_le (by rw [← HM.out]; exact Nat.le_refl _)] at h
        exact ⟨ov, rfl, (h.base HB1.out.size).keep (Y := fun b => w.heap.size ≤ b) (.refl _ _) (fun b _ hz => Nat.le_trans HB1.out.size hz), HB1.out.trans (HBW.out.mono HB1.out.size)⟩)
      go_wp2
      go_ret
      exact HF.out
end Go.Proofs.YtkpmmkokfllafaaGreat
