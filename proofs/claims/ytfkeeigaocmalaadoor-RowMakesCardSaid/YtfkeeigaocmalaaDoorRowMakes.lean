/- RowMakes (24.1) answers true at every width and every list of cells, and turns nothing. Conditions: api's eight errors read as their initialisers lay them (tied to the program's text by the card). -/
import Derived.Test.YtfkeeigaocmalaaDoorRowW
import Derived.Test.YtfkeeigaocmalaaDoorCellU
import Derived.Test.YtfkeeigaocmalaaDoorCellS
import Derived.Test.YtfkeeigaocmalaaDoorErrS
import Derived.Test.YtfkeeigaocmalaaDoorCards
import Derived.Test.YtfkeeigaocmalaaDoorTie
import Derived.ProofKit
import Derived.Lib.MinMax
namespace Go.Proofs.YtfkeeigaocmalaaDoor.lawRowMakes
open Go.ChangeShapes Go.WideShapes Go.ChangeAt Go.RowKit
set_option maxRecDepth 100000 in
set_option maxHeartbeats 8000000 in
theorem walkH (W : World) (n : Int) (vb : Value) (L : List Cl) (Z : Zone) (hb : HeldE cellE Z W vb L) (sa : Nat → Addr) (hsa : Sents W sa) : Calls Tryd.prog 3 #[.int .i64 n, vb] W (Yes W) := by
  have hlb := hb.max
  have hb := hb.lower
  obtain ⟨bo, cb, rfl⟩ := hb.len
  obtain ⟨_, _, hc⟩ := cells_at hb
  have HB := Lib.hid hb
  have HC := Lib.hid hc
  have HSA := Lib.hid hsa
  clear hb hc hsa
  by_cases h1 : 1100 < L.length
  · go_enter Tryd.func3, Tryd.ntmps3
    go_wp2_with fail
    refine (works24_any _).mono ?_
    rintro e w1 ⟨rfl, b1⟩
    go_wp2_with fail
    refine (works24_any _).mono ?_
    rintro e w2 ⟨rfl, b2⟩
    have b2 := b1.trans (b2.mono b1.size)
    go_wp2
    go_ret
    exact ⟨(ret_eq (by first | rfl | (simp <;> omega))), b2⟩
  · have h2 : L.length ≤ 1100 := by omega
    clear h1
    obtain ⟨_, hm0, hm1, hmx⟩ := blankN_row n
    have HNW := Lib.hid (fun w => rnew_any (fun _ => True) n w)
    obtain ⟨m, hm⟩ : ∃ m, m = rowN n := ⟨_, rfl⟩
    rw [← hm] at hm0 hm1 hmx HNW
    have HMX := Lib.hid hmx
    clear hm hmx
    go_enter Tryd.func3, Tryd.ntmps3
    go_wp2_with fail
    refine (works24_any _).mono ?_
    rintro e w1 ⟨rfl, b1⟩
    have B1 := Lib.hid b1
    clear b1
    go_wp2_with fail
    refine (HNW.out w1).mono ?_
    rintro e w2 ⟨g, gc, rfl, hr2, b2⟩
    have B2 := Lib.hid (B1.out.trans (b2.mono B1.out.size))
    have HR2 := Lib.hid hr2
    clear hr2 b2 HNW
    go_wp2_with fail
    refine (rwide_any _ _ g gc _ _ _ HR2.out).mono ?_
    rintro e w3 ⟨rfl, rfl⟩
    rw [List.length_replicate]
    have hmx := HMX.out
    have hmm : ((m : Int) != (m : Int)) = false := by simp
    go_wp2_with fail
    clear hmx
    refine (rwrap_any _ _ g gc _ _ _ HR2.out).mono ?_
    rintro e w3 ⟨rfl, rfl⟩
    go_wp2_with fail
    refine (rcells_any _ _ g gc _ _ _ HR2.out).mono ?_
    rintro e w3 ⟨v3, rfl, ho3, b3⟩
    obtain ⟨g3, c3, rfl, _, _⟩ := ho3.some (by simp; omega)
    rw [List.length_replicate]
    have B3 := Lib.hid (B2.out.trans (b3.mono B2.out.size))
    have HR3 := Lib.hid (HR2.out.below b3)
    clear ho3 b3
    go_wp2_with fail
    refine (rwide_any _ _ g gc _ _ _ HR3.out).mono ?_
    rintro e w4 ⟨rfl, rfl⟩
    rw [List.length_replicate]
    go_wp2_with fail
    refine (rcells_any _ _ g gc _ _ _ HR3.out).mono ?_
    rintro e w5 ⟨v5, rfl, ho5, b5⟩
    have B5 := Lib.hid (B3.out.trans (b5.mono B3.out.size))
    have H5 := Lib.hid (ho5.held (fun b hb _ => hb))
    clear ho5 b5
    go_wp2_with fail
    have hs6 := rsound_any _ _ _ _ H5.out
    rw [← sound_iff, blank_sound] at hs6
    refine hs6.mono ?_
    rintro e w6 ⟨rfl, b6⟩
    have B6 := Lib.hid (B5.out.trans (b6.mono B5.out.size))
    clear b6 hs6 hmm
    by_cases hbad : L.length = 0 ∨ 1024 < L.length
    · go_wp2_with fail
      refine (rof_range sa _ L _ w6 (HSA.out.below B6.out) (HB.out.below B6.out) hbad).mono ?_
      rintro e w7 ⟨rfl, b7⟩
      have B7 := Lib.hid (B6.out.trans (b7.mono B6.out.size))
      clear b7
      rcases hbad with h0 | h0
      · have hz : ((L.length : Int) == 0) = true := by rw [h0]; rfl
        clear h0
        go_wp2_with fail
        refine (code_sent sa _ (HSA.out.below B7.out) 2 (by decide)).mono ?_
        rintro e w8 ⟨rfl, rfl⟩
        go_wp2
        go_ret
        exact ⟨(ret_eq (by first | rfl | (simp <;> omega))), B7.out⟩
      · have hz : ((L.length : Int) == 0) = false := by rw [beq_eq_false_iff_ne]; omega
        go_wp2_with fail
        refine (code_sent sa _ (HSA.out.below B7.out) 2 (by decide)).mono ?_
        rintro e w8 ⟨rfl, rfl⟩
        go_wp2
        go_ret
        exact ⟨(ret_eq (by first | rfl | (simp <;> omega))), B7.out⟩
    · have h0 : 0 < L.length := by omega
      have h3 : L.length ≤ 1024 := by omega
      clear hbad
      have hz : ((L.length : Int) == 0) = false := by rw [beq_eq_false_iff_ne]; omega
      have HRS := Lib.hid (fun w2 (hb2 : Below W.heap.size W w2) => rsound_any _ _ _ w2 (HB.out.below hb2))
      simp only [← sound_iff] at HRS
      cases hsd : soundB L with
      | false =>
        have HSD := Lib.hid hsd
        rw [hsd] at HRS
        clear hsd
        go_wp2_with fail
        refine (rof_kind sa _ L _ w6 (HSA.out.below B6.out) (HB.out.below B6.out) h0 h3 HSD.out).mono ?_
        rintro e w7 ⟨rfl, b7⟩
        have B7 := Lib.hid (B6.out.trans (b7.mono B6.out.size))
        clear b7
        go_wp2_with fail
        refine (HRS.out w7 B7.out).mono ?_
        rintro e w8 ⟨rfl, b8⟩
        have B8 := Lib.hid (B7.out.trans (b8.mono B7.out.size))
        clear b8
        go_wp2_with fail
        refine (code_sent sa _ (HSA.out.below B8.out) 4 (by decide)).mono ?_
        rintro e w9 ⟨rfl, rfl⟩
        go_wp2
        go_ret
        exact ⟨(ret_eq (by first | rfl | (simp <;> omega))), B8.out⟩
      | true =>
        have HSD := Lib.hid hsd
        rw [hsd] at HRS
        clear hsd
        go_wp2_with fail
        refine (rof_ok _ L _ w6 (HB.out.below B6.out) h0 h3 HSD.out).mono ?_
        rintro e w7 ⟨g7, gc7, rfl, hr7, b7⟩
        have B7 := Lib.hid (B6.out.trans (b7.mono B6.out.size))
        have HR7 := Lib.hid hr7
        clear b7 hr7
        go_wp2_with fail
        refine (HRS.out w7 B7.out).mono ?_
        rintro e w8 ⟨rfl, b8⟩
        have B8 := Lib.hid (B7.out.trans (b8.mono B7.out.size))
        have HR8 := Lib.hid (HR7.out.below b8)
        clear b8
        go_wp2_with fail
        refine (rwrap_any _ _ g7 gc7 _ _ _ HR8.out).mono ?_
        rintro e w9 ⟨rfl, rfl⟩
        go_wp2_with fail
        refine (rcells_any _ _ g7 gc7 _ _ _ HR8.out).mono ?_
        rintro e w9 ⟨v9, rfl, ho9, b9⟩
        have B9 := Lib.hid (B8.out.trans (b9.mono B8.out.size))
        have HR9 := Lib.hid (HR8.out.below b9)
        have H9 := Lib.hid (ho9.held (fun b hb _ => hb))
        clear ho9 b9
        go_wp2_with fail
        refine (rcsame_any _ _ _ _ _ _ _ H9.out (HB.out.below B9.out)).mono ?_
        rintro e w10 ⟨rfl, b10⟩
        rw [sameC_self]
        have B10 := Lib.hid (B9.out.trans (b10.mono B9.out.size))
        have HR10 := Lib.hid (HR9.out.below b10)
        clear b10
        go_wp2
        go_loopw [8] (fun i wr => ∃ j : Int, -1 ≤ j ∧ j ≤ L.length + 1 ∧ i = .int .i64 j ∧ RowAt (fun b => w6.heap.size ≤ b) wr w6.heap.size g7 gc7 L false ∧ Below W.heap.size W wr) (fun i _ => (L.length + 2 - (intOf i + 1)).toNat)
        case atStart => exact ⟨-1, by omega, by omega, rfl, HR10.out, B10.out⟩
        case round =>
          obtain ⟨j, hj0, hj1, rfl, hr, hbw⟩ := hrel
          have HR := Lib.hid hr
          have HBW := Lib.hid hbw
          clear hr hbw
          by_cases hle : j ≤ L.length
          · have hw1 : IntKind.i64.wrap (j + 1) = j + 1 := by rw [IntKind.wrap_i64]; omega
            by_cases hout : j < 0 ∨ (L.length : Int) ≤ j
            · go_wp2_with fail
              refine (rcell_out _ _ g7 gc7 L _ j wr HR.out hout).mono ?_
              rintro e w11 ⟨rfl, b11⟩
              have HRN := Lib.hid ((HR.out.below b11).below ((Below.refl w11.heap.size w11).alloc (Nat.le_refl _) (.cells #[.int .i64 0, .slice none 0 0] 37)))
              have HBN := Lib.hid ((HBW.out.trans (b11.mono HBW.out.size)).alloc (HBW.out.trans (b11.mono HBW.out.size)).size (.cells #[.int .i64 0, .slice none 0 0] 37))
              clear b11
              rcases hout with ho | ho
              · have q1 : decide (0 ≤ j) = false := by simp; omega
                go_wp2
                go_quiet (fail)
                have HRQ := Lib.hid (HRN.out.below ((Below.refl _ _).drewN nq))
                have HBQ := Lib.hid (HBN.out.drewN nq)
                go_wp2
                go_roundw
                case rel => exact ⟨j + 1, by omega, by omega, rfl, HRQ.out, HBQ.out⟩
                case measure => simp [intOf] <;> omega
              · have q1 : decide (0 ≤ j) = true := by simp; omega
                have q2 : decide (j < (L.length : Int)) = false := by simp; omega
                have q3 : 0 ≤ j := by omega
                have q4 : ¬ j < (L.length : Int) := by omega
                go_wp2
                go_quiet (fail)
                have HRQ := Lib.hid (HRN.out.below ((Below.refl _ _).drewN nq))
                have HBQ := Lib.hid (HBN.out.drewN nq)
                go_wp2
                go_roundw
                case rel => exact ⟨j + 1, by omega, by omega, rfl, HRQ.out, HBQ.out⟩
                case measure => simp [intOf] <;> omega
            · obtain ⟨k, rfl⟩ := Int.eq_ofNat_of_zero_le (show 0 ≤ j by omega)
              have hlt : k < L.length := by omega
              clear hout
              obtain ⟨b, off, tv, rfl, hb, _, c0, c1, hh⟩ := HC.out k hlt
              have HCI := Lib.hid (rcell_in _ _ g7 gc7 L _ k wr HR.out hlt)
              obtain ⟨⟨K, T⟩, hKT⟩ : ∃ y, y = L.getD k zc := ⟨_, rfl⟩
              rw [← hKT] at c0 hh HCI
              simp only at c0 hh
              have HCC := Lib.hid (show ∀ w2, Below W.heap.size W w2 → w2.cell? ⟨b, off + k * 2, none⟩ = some (.int .i64 K) ∧ w2.cell? ⟨b, off + k * 2 + 1, none⟩ = some tv from fun w2 h => ⟨(h.cell (p := ⟨b, off + k * 2, none⟩) hb).trans c0, (h.cell (p := ⟨b, off + k * 2 + 1, none⟩) hb).trans c1⟩)
              have HH := Lib.hid hh
              clear hKT c0 c1 hh hb
              go_wp2_with fail
              refine HCI.out.mono ?_
              rintro e w11 ⟨tu, rfl, h11, b11⟩
              simp only at h11
              have HRN := Lib.hid (HR.out.below b11)
              have HBN := Lib.hid (HBW.out.trans (b11.mono HBW.out.size))
              have H11 := Lib.hid h11
              obtain ⟨ua, uc, rfl⟩ := h11.len
              clear b11 h11
              obtain ⟨W0, hW0⟩ : ∃ W0, W0 = w11.alloc (.cells #[.int .i64 K, .slice ua T.length uc] 37) := ⟨_, rfl⟩
              have hb0 : Below w11.heap.size w11 W0 := by rw [hW0]; exact (Below.refl _ _).alloc (Nat.le_refl _) _
              have hbox : Has W0 w11.heap.size [.int .i64 K, .slice ua T.length uc] 37 := by rw [hW0]; exact Has.new w11 _ _
              obtain ⟨gb, hgb⟩ : ∃ gb, gb = w11.heap.size := ⟨_, rfl⟩
              have HGB := Lib.hid hgb
              have HWW := Lib.hid hW0
              rw [← hgb] at hbox
              have HBX := Lib.hid hbox
              have HR0 := Lib.hid (HRN.out.below hb0)
              have HB0 := Lib.hid (HBN.out.trans (hb0.mono HBN.out.size))
              have HU0 := Lib.hid ((H11.out.below hb0).zone (Y := fun _ => True) (fun _ _ _ => trivial))
              clear hgb hbox hb0 hW0
              go_wp2
              rw [← HGB.out]
              rw [← HWW.out]
              clear HGB HWW
              obtain ⟨Erg, hErg⟩ : ∃ EE : Nat → Value → World → Prop, EE = fun jj xx ww => match jj with
                  | 0 => xx = .bool true
                  | 1 => xx = .int .i64 k
                  | 2 => xx = .bool true
                  | 3 => xx = .bool true
                  | 4 => xx = .int .i64 k
                  | 5 => xx = .slice (some ⟨b, off, none⟩) L.length cb
                  | 6 => xx = .int .i64 L.length
                  | 7 => xx = .bool true
                  | 8 => xx = .bool true
                  | 9 => xx = .bool false
                  | 10 => xx = .bool false
                  | 11 => xx = .bool true
                  | 12 => xx = .bool true
                  | 13 => xx = .agg #[.int .i64 K, .slice ua T.length uc]
                  | 14 => (fun x w' => HeldE cellE (fun _ => True) w' x [(K, T)]) xx ww
                  | 15 => xx = .slice (some ⟨b, off, none⟩) L.length cb
                  | 16 => xx = .int .i64 k
                  | 17 => xx = .pointer (some ⟨b, off + k * 2, none⟩)
                  | 18 => xx = .agg #[.int .i64 K, tv]
                  | 19 => (fun x w' => HeldE cellE (fun _ => True) w' x [(K, T)]) xx ww
                  | 20 => xx = .bool true
                  | 21 => xx = .bool false
                  | 22 => xx = .bool false
                  | 23 => xx = .bool false
                  | 24 => xx = .bool false
                  | 25 => xx = .bool true
                  | 26 => xx = .bool false
                  | 27 => xx = .bool false
                  | 28 => xx = undef
                  | 29 => xx = undef
                  | 30 => xx = undef
                  | 31 => xx = undef
                  | 32 => xx = undef
                  | 33 => xx = undef
                  | 34 => xx = undef
                  | 35 => xx = undef
                  | 36 => xx = undef
                  | 37 => xx = .bool false
                  | 38 => xx = .bool false
                  | _ => True := ⟨_, rfl⟩
              have erg0 : ∀ xx ww, Erg 0 xx ww = (xx = .bool true) := fun xx ww => congrFun (congrFun (congrFun hErg 0) xx) ww
              have erg1 : ∀ xx ww, Erg 1 xx ww = (xx = .int .i64 k) := fun xx ww => congrFun (congrFun (congrFun hErg 1) xx) ww
              have erg2 : ∀ xx ww, Erg 2 xx ww = (xx = .bool true) := fun xx ww => congrFun (congrFun (congrFun hErg 2) xx) ww
              have erg3 : ∀ xx ww, Erg 3 xx ww = (xx = .bool true) := fun xx ww => congrFun (congrFun (congrFun hErg 3) xx) ww
              have erg4 : ∀ xx ww, Erg 4 xx ww = (xx = .int .i64 k) := fun xx ww => congrFun (congrFun (congrFun hErg 4) xx) ww
              have erg5 : ∀ xx ww, Erg 5 xx ww = (xx = .slice (some ⟨b, off, none⟩) L.length cb) := fun xx ww => congrFun (congrFun (congrFun hErg 5) xx) ww
              have erg6 : ∀ xx ww, Erg 6 xx ww = (xx = .int .i64 L.length) := fun xx ww => congrFun (congrFun (congrFun hErg 6) xx) ww
              have erg7 : ∀ xx ww, Erg 7 xx ww = (xx = .bool true) := fun xx ww => congrFun (congrFun (congrFun hErg 7) xx) ww
              have erg8 : ∀ xx ww, Erg 8 xx ww = (xx = .bool true) := fun xx ww => congrFun (congrFun (congrFun hErg 8) xx) ww
              have erg9 : ∀ xx ww, Erg 9 xx ww = (xx = .bool false) := fun xx ww => congrFun (congrFun (congrFun hErg 9) xx) ww
              have erg10 : ∀ xx ww, Erg 10 xx ww = (xx = .bool false) := fun xx ww => congrFun (congrFun (congrFun hErg 10) xx) ww
              have erg11 : ∀ xx ww, Erg 11 xx ww = (xx = .bool true) := fun xx ww => congrFun (congrFun (congrFun hErg 11) xx) ww
              have erg12 : ∀ xx ww, Erg 12 xx ww = (xx = .bool true) := fun xx ww => congrFun (congrFun (congrFun hErg 12) xx) ww
              have erg13 : ∀ xx ww, Erg 13 xx ww = (xx = .agg #[.int .i64 K, .slice ua T.length uc]) := fun xx ww => congrFun (congrFun (congrFun hErg 13) xx) ww
              have erg14 : ∀ xx ww, Erg 14 xx ww = ((fun x w' => HeldE cellE (fun _ => True) w' x [(K, T)]) xx ww) := fun xx ww => congrFun (congrFun (congrFun hErg 14) xx) ww
              have erg15 : ∀ xx ww, Erg 15 xx ww = (xx = .slice (some ⟨b, off, none⟩) L.length cb) := fun xx ww => congrFun (congrFun (congrFun hErg 15) xx) ww
              have erg16 : ∀ xx ww, Erg 16 xx ww = (xx = .int .i64 k) := fun xx ww => congrFun (congrFun (congrFun hErg 16) xx) ww
              have erg17 : ∀ xx ww, Erg 17 xx ww = (xx = .pointer (some ⟨b, off + k * 2, none⟩)) := fun xx ww => congrFun (congrFun (congrFun hErg 17) xx) ww
              have erg18 : ∀ xx ww, Erg 18 xx ww = (xx = .agg #[.int .i64 K, tv]) := fun xx ww => congrFun (congrFun (congrFun hErg 18) xx) ww
              have erg19 : ∀ xx ww, Erg 19 xx ww = ((fun x w' => HeldE cellE (fun _ => True) w' x [(K, T)]) xx ww) := fun xx ww => congrFun (congrFun (congrFun hErg 19) xx) ww
              have erg20 : ∀ xx ww, Erg 20 xx ww = (xx = .bool true) := fun xx ww => congrFun (congrFun (congrFun hErg 20) xx) ww
              have erg21 : ∀ xx ww, Erg 21 xx ww = (xx = .bool false) := fun xx ww => congrFun (congrFun (congrFun hErg 21) xx) ww
              have erg22 : ∀ xx ww, Erg 22 xx ww = (xx = .bool false) := fun xx ww => congrFun (congrFun (congrFun hErg 22) xx) ww
              have erg23 : ∀ xx ww, Erg 23 xx ww = (xx = .bool false) := fun xx ww => congrFun (congrFun (congrFun hErg 23) xx) ww
              have erg24 : ∀ xx ww, Erg 24 xx ww = (xx = .bool false) := fun xx ww => congrFun (congrFun (congrFun hErg 24) xx) ww
              have erg25 : ∀ xx ww, Erg 25 xx ww = (xx = .bool true) := fun xx ww => congrFun (congrFun (congrFun hErg 25) xx) ww
              have erg26 : ∀ xx ww, Erg 26 xx ww = (xx = .bool false) := fun xx ww => congrFun (congrFun (congrFun hErg 26) xx) ww
              have erg27 : ∀ xx ww, Erg 27 xx ww = (xx = .bool false) := fun xx ww => congrFun (congrFun (congrFun hErg 27) xx) ww
              have erg28 : ∀ xx ww, Erg 28 xx ww = (xx = undef) := fun xx ww => congrFun (congrFun (congrFun hErg 28) xx) ww
              have erg29 : ∀ xx ww, Erg 29 xx ww = (xx = undef) := fun xx ww => congrFun (congrFun (congrFun hErg 29) xx) ww
              have erg30 : ∀ xx ww, Erg 30 xx ww = (xx = undef) := fun xx ww => congrFun (congrFun (congrFun hErg 30) xx) ww
              have erg31 : ∀ xx ww, Erg 31 xx ww = (xx = undef) := fun xx ww => congrFun (congrFun (congrFun hErg 31) xx) ww
              have erg32 : ∀ xx ww, Erg 32 xx ww = (xx = undef) := fun xx ww => congrFun (congrFun (congrFun hErg 32) xx) ww
              have erg33 : ∀ xx ww, Erg 33 xx ww = (xx = undef) := fun xx ww => congrFun (congrFun (congrFun hErg 33) xx) ww
              have erg34 : ∀ xx ww, Erg 34 xx ww = (xx = undef) := fun xx ww => congrFun (congrFun (congrFun hErg 34) xx) ww
              have erg35 : ∀ xx ww, Erg 35 xx ww = (xx = undef) := fun xx ww => congrFun (congrFun (congrFun hErg 35) xx) ww
              have erg36 : ∀ xx ww, Erg 36 xx ww = (xx = undef) := fun xx ww => congrFun (congrFun (congrFun hErg 36) xx) ww
              have erg37 : ∀ xx ww, Erg 37 xx ww = (xx = .bool false) := fun xx ww => congrFun (congrFun (congrFun hErg 37) xx) ww
              have erg38 : ∀ xx ww, Erg 38 xx ww = (xx = .bool false) := fun xx ww => congrFun (congrFun (congrFun hErg 38) xx) ww
              obtain ⟨Crg, hCrg⟩ : ∃ CC : Array Bool → World → Prop, CC = fun L8 w' => Below W0.heap.size W0 w' := ⟨_, rfl⟩
              have krg : ∀ i L w,  Crg L w → Crg (L.setIfInBounds i true) w := by
                intro i L w  h
                rw [hCrg] at h ⊢
                exact h
              obtain ⟨Xrg, hXrg⟩ : ∃ XX : World → World → Prop, XX = fun x y => Below x.heap.size x y := ⟨_, rfl⟩
              have xrg : ∀ w, Xrg w w := fun w => by rw [hXrg]; exact Below.refl _ _
              have strg : ∀ j x w w1, Xrg w w1 → Erg j x w → Erg j x w1 := by
                intro j x w w1 hx h
                rw [hXrg] at hx
                match j with
                | 0 => rw [erg0] at h ⊢; exact h
                | 1 => rw [erg1] at h ⊢; exact h
                | 2 => rw [erg2] at h ⊢; exact h
                | 3 => rw [erg3] at h ⊢; exact h
                | 4 => rw [erg4] at h ⊢; exact h
                | 5 => rw [erg5] at h ⊢; exact h
                | 6 => rw [erg6] at h ⊢; exact h
                | 7 => rw [erg7] at h ⊢; exact h
                | 8 => rw [erg8] at h ⊢; exact h
                | 9 => rw [erg9] at h ⊢; exact h
                | 10 => rw [erg10] at h ⊢; exact h
                | 11 => rw [erg11] at h ⊢; exact h
                | 12 => rw [erg12] at h ⊢; exact h
                | 13 => rw [erg13] at h ⊢; exact h
                | 14 => rw [erg14] at h ⊢; (exact HeldE.below h hx)
                | 15 => rw [erg15] at h ⊢; exact h
                | 16 => rw [erg16] at h ⊢; exact h
                | 17 => rw [erg17] at h ⊢; exact h
                | 18 => rw [erg18] at h ⊢; exact h
                | 19 => rw [erg19] at h ⊢; (exact HeldE.below h hx)
                | 20 => rw [erg20] at h ⊢; exact h
                | 21 => rw [erg21] at h ⊢; exact h
                | 22 => rw [erg22] at h ⊢; exact h
                | 23 => rw [erg23] at h ⊢; exact h
                | 24 => rw [erg24] at h ⊢; exact h
                | 25 => rw [erg25] at h ⊢; exact h
                | 26 => rw [erg26] at h ⊢; exact h
                | 27 => rw [erg27] at h ⊢; exact h
                | 28 => rw [erg28] at h ⊢; exact h
                | 29 => rw [erg29] at h ⊢; exact h
                | 30 => rw [erg30] at h ⊢; exact h
                | 31 => rw [erg31] at h ⊢; exact h
                | 32 => rw [erg32] at h ⊢; exact h
                | 33 => rw [erg33] at h ⊢; exact h
                | 34 => rw [erg34] at h ⊢; exact h
                | 35 => rw [erg35] at h ⊢; exact h
                | 36 => rw [erg36] at h ⊢; exact h
                | 37 => rw [erg37] at h ⊢; exact h
                | 38 => rw [erg38] at h ⊢; exact h
                | j + 39 => rw [hErg]; trivial
              have crg : Crg (Array.replicate 39 false) W0.drew := by rw [hCrg]; exact (Below.refl _ _).drew
              have brg : ∀ L w w1, Crg L w → Below w.heap.size w w1 → Crg L w1 := by
                intro L w w1 h hb
                rw [hCrg] at h ⊢
                exact h.trans (hb.mono h.size)
              have xbrg : ∀ w w1, Below w.heap.size w w1 → Xrg w w1 := by
                intro w w1 hb
                rw [hXrg]
                exact hb
              have Hrgb := Lib.hid brg
              have Hrgxb := Lib.hid xbrg
              clear brg xbrg
              clear hErg
              have Hrgk := Lib.hid krg
              have Hrgx := Lib.hid xrg
              have Hrgst := Lib.hid strg
              have Hrgc := Lib.hid crg
              have HrghC := Lib.hid hCrg
              have HrghX := Lib.hid hXrg
              have Hrge0 := Lib.hid erg0
              have Hrge1 := Lib.hid erg1
              have Hrge2 := Lib.hid erg2
              have Hrge3 := Lib.hid erg3
              have Hrge4 := Lib.hid erg4
              have Hrge5 := Lib.hid erg5
              have Hrge6 := Lib.hid erg6
              have Hrge7 := Lib.hid erg7
              have Hrge8 := Lib.hid erg8
              have Hrge9 := Lib.hid erg9
              have Hrge10 := Lib.hid erg10
              have Hrge11 := Lib.hid erg11
              have Hrge12 := Lib.hid erg12
              have Hrge13 := Lib.hid erg13
              have Hrge14 := Lib.hid erg14
              have Hrge15 := Lib.hid erg15
              have Hrge16 := Lib.hid erg16
              have Hrge17 := Lib.hid erg17
              have Hrge18 := Lib.hid erg18
              have Hrge19 := Lib.hid erg19
              have Hrge20 := Lib.hid erg20
              have Hrge21 := Lib.hid erg21
              have Hrge22 := Lib.hid erg22
              have Hrge23 := Lib.hid erg23
              have Hrge24 := Lib.hid erg24
              have Hrge25 := Lib.hid erg25
              have Hrge26 := Lib.hid erg26
              have Hrge27 := Lib.hid erg27
              have Hrge28 := Lib.hid erg28
              have Hrge29 := Lib.hid erg29
              have Hrge30 := Lib.hid erg30
              have Hrge31 := Lib.hid erg31
              have Hrge32 := Lib.hid erg32
              have Hrge33 := Lib.hid erg33
              have Hrge34 := Lib.hid erg34
              have Hrge35 := Lib.hid erg35
              have Hrge36 := Lib.hid erg36
              have Hrge37 := Lib.hid erg37
              have Hrge38 := Lib.hid erg38
              clear krg xrg strg crg hCrg hXrg erg0 erg1 erg2 erg3 erg4 erg5 erg6 erg7 erg8 erg9 erg10 erg11 erg12 erg13 erg14 erg15 erg16 erg17 erg18 erg19 erg20 erg21 erg22 erg23 erg24 erg25 erg26 erg27 erg28 erg29 erg30 erg31 erg32 erg33 erg34 erg35 erg36 erg37 erg38
              go_wp2_with fail
              refine Reg.regionF Erg Crg Xrg Hrgst.out (by kernel_rfl) (by kernel_rfl) (by kernel_rfl) Hrgc.out (fun Frg hFrg => ?_)
              simp only [Reg.frame, Reg.dsts, List.map_cons, List.map_nil, Mix.put_lit, Reg.put_none, List.set_cons_succ, List.set_cons_zero, Array.getD, Nat.zero_add, Nat.reduceAdd] at hFrg
              refine ⟨?_, ?_⟩
              · refine ⟨?_, ?_, ?_, ?_, ?_, ?_, ?_, ?_, ?_, ?_, ?_, ?_, ?_, ?_, ?_, ?_, ?_, ?_, ?_, ?_, ?_, ?_, ?_, ?_, ?_, ?_, ?_, ?_, ?_, ?_, ?_, ?_, ?_, ?_, ?_, ?_, ?_, ?_, ?_, trivial⟩
                · intro Lq wq xq hh
                  simp only [hFrg]
                  refine .inl ⟨rfl, ?_⟩
                  unfold Reg.upon
                  have hk := Hrgk.out 0 Lq wq  hh.cls
                  have hx := Hrgx.out wq
                  have he : Erg 0 (.bool true) wq := by rw [Hrge0.out]
                  have HK := Lib.hid (And.intro hk (And.intro he hx))
                  clear hk hx he
                  go_simp
                  exact HK.out
                · intro Lq wq xq hh
                  simp only [hFrg]
                  refine .inl ⟨rfl, ?_⟩
                  unfold Reg.upon
                  have hk := Hrgk.out 1 Lq wq  hh.cls
                  have hx := Hrgx.out wq
                  have he : Erg 1 (.int .i64 k) wq := by rw [Hrge1.out]
                  have HK := Lib.hid (And.intro hk (And.intro he hx))
                  clear hk hx he
                  go_simp
                  exact HK.out
                · intro Lq wq xq hh
                  have d1 : Erg 1 (xq 1) wq := hh.val 1 (by kernel_rfl) (by kernel_rfl)
                  rw [Hrge1.out] at d1
                  simp only [hFrg, d1]
                  clear d1
                  refine .inl ⟨rfl, ?_⟩
                  unfold Reg.upon
                  have hk := Hrgk.out 2 Lq wq  hh.cls
                  have hx := Hrgx.out wq
                  have he : Erg 2 (.bool true) wq := by rw [Hrge2.out]
                  have HK := Lib.hid (And.intro hk (And.intro he hx))
                  clear hk hx he
                  go_simp
                  exact HK.out
                · intro Lq wq xq hh
                  have d2 : Erg 2 (xq 2) wq := hh.val 2 (by kernel_rfl) (by kernel_rfl)
                  rw [Hrge2.out] at d2
                  simp only [hFrg, d2]
                  clear d2
                  refine .inl ⟨rfl, ?_⟩
                  unfold Reg.upon
                  have hk := Hrgk.out 3 Lq wq  hh.cls
                  have hx := Hrgx.out wq
                  have he : Erg 3 (.bool true) wq := by rw [Hrge3.out]
                  have HK := Lib.hid (And.intro hk (And.intro he hx))
                  clear hk hx he
                  go_simp
                  exact HK.out
                · intro Lq wq xq hh
                  have d3 : Erg 3 (xq 3) wq := hh.val 3 (by kernel_rfl) (by kernel_rfl)
                  rw [Hrge3.out] at d3
                  simp only [hFrg, d3]
                  clear d3
                  refine .inl ⟨rfl, ?_⟩
                  unfold Reg.upon
                  have hk := Hrgk.out 4 Lq wq  hh.cls
                  have hx := Hrgx.out wq
                  have he : Erg 4 (.int .i64 k) wq := by rw [Hrge4.out]
                  have HK := Lib.hid (And.intro hk (And.intro he hx))
                  clear hk hx he
                  go_simp
                  exact HK.out
                · intro Lq wq xq hh
                  have d3 : Erg 3 (xq 3) wq := hh.val 3 (by kernel_rfl) (by kernel_rfl)
                  rw [Hrge3.out] at d3
                  simp only [hFrg, d3]
                  clear d3
                  refine .inl ⟨rfl, ?_⟩
                  unfold Reg.upon
                  have hk := Hrgk.out 5 Lq wq  hh.cls
                  have hx := Hrgx.out wq
                  have he : Erg 5 (.slice (some ⟨b, off, none⟩) L.length cb) wq := by rw [Hrge5.out]
                  have HK := Lib.hid (And.intro hk (And.intro he hx))
                  clear hk hx he
                  go_simp
                  exact HK.out
                · intro Lq wq xq hh
                  have d3 : Erg 3 (xq 3) wq := hh.val 3 (by kernel_rfl) (by kernel_rfl)
                  rw [Hrge3.out] at d3
                  have d5 : Erg 5 (xq 5) wq := hh.val 5 (by kernel_rfl) (by kernel_rfl)
                  rw [Hrge5.out] at d5
                  simp only [hFrg, d3, d5]
                  clear d3 d5
                  refine .inl ⟨rfl, ?_⟩
                  unfold Reg.upon
                  have hk := Hrgk.out 6 Lq wq  hh.cls
                  have hx := Hrgx.out wq
                  have he : Erg 6 (.int .i64 L.length) wq := by rw [Hrge6.out]
                  have HK := Lib.hid (And.intro hk (And.intro he hx))
                  clear hk hx he
                  go_simp
                  exact HK.out
                · intro Lq wq xq hh
                  have d3 : Erg 3 (xq 3) wq := hh.val 3 (by kernel_rfl) (by kernel_rfl)
                  rw [Hrge3.out] at d3
                  have d4 : Erg 4 (xq 4) wq := hh.val 4 (by kernel_rfl) (by kernel_rfl)
                  rw [Hrge4.out] at d4
                  have d6 : Erg 6 (xq 6) wq := hh.val 6 (by kernel_rfl) (by kernel_rfl)
                  rw [Hrge6.out] at d6
                  simp only [hFrg, d3, d4, d6]
                  clear d3 d4 d6
                  refine .inl ⟨rfl, ?_⟩
                  unfold Reg.upon
                  have hk := Hrgk.out 7 Lq wq  hh.cls
                  have hx := Hrgx.out wq
                  have he : Erg 7 (.bool true) wq := by rw [Hrge7.out]
                  have HK := Lib.hid (And.intro hk (And.intro he hx))
                  clear hk hx he
                  go_simp
                  exact HK.out
                · intro Lq wq xq hh
                  have d3 : Erg 3 (xq 3) wq := hh.val 3 (by kernel_rfl) (by kernel_rfl)
                  rw [Hrge3.out] at d3
                  have d7 : Erg 7 (xq 7) wq := hh.val 7 (by kernel_rfl) (by kernel_rfl)
                  rw [Hrge7.out] at d7
                  simp only [hFrg, d3, d7]
                  clear d3 d7
                  refine .inl ⟨rfl, ?_⟩
                  unfold Reg.upon
                  have hk := Hrgk.out 8 Lq wq  hh.cls
                  have hx := Hrgx.out wq
                  have he : Erg 8 (.bool true) wq := by rw [Hrge8.out]
                  have HK := Lib.hid (And.intro hk (And.intro he hx))
                  clear hk hx he
                  go_simp
                  exact HK.out
                · intro Lq wq xq hh
                  have d0 : Erg 0 (xq 0) wq := hh.val 0 (by kernel_rfl) (by kernel_rfl)
                  rw [Hrge0.out] at d0
                  have d8 : Erg 8 (xq 8) wq := hh.val 8 (by kernel_rfl) (by kernel_rfl)
                  rw [Hrge8.out] at d8
                  simp only [hFrg, d0, d8]
                  clear d0 d8
                  refine .inl ⟨rfl, ?_⟩
                  unfold Reg.upon
                  have hk := Hrgk.out 9 Lq wq  hh.cls
                  have hx := Hrgx.out wq
                  have he : Erg 9 (.bool false) wq := by rw [Hrge9.out]
                  have HK := Lib.hid (And.intro hk (And.intro he hx))
                  clear hk hx he
                  go_simp
                  exact HK.out
                · intro Lq wq xq hh
                  have d9 : Erg 9 (xq 9) wq := hh.val 9 (by kernel_rfl) (by kernel_rfl)
                  rw [Hrge9.out] at d9
                  simp only [hFrg, d9]
                  clear d9
                  refine .inl ⟨rfl, ?_⟩
                  unfold Reg.upon
                  have hk := Hrgk.out 10 Lq wq  hh.cls
                  have hx := Hrgx.out wq
                  have he : Erg 10 (.bool false) wq := by rw [Hrge10.out]
                  have HK := Lib.hid (And.intro hk (And.intro he hx))
                  clear hk hx he
                  go_simp
                  exact HK.out
                · intro Lq wq xq hh
                  have d10 : Erg 10 (xq 10) wq := hh.val 10 (by kernel_rfl) (by kernel_rfl)
                  rw [Hrge10.out] at d10
                  simp only [hFrg, d10]
                  clear d10
                  refine .inl ⟨rfl, ?_⟩
                  unfold Reg.upon
                  have hk := Hrgk.out 11 Lq wq  hh.cls
                  have hx := Hrgx.out wq
                  have he : Erg 11 (.bool true) wq := by rw [Hrge11.out]
                  have HK := Lib.hid (And.intro hk (And.intro he hx))
                  clear hk hx he
                  go_simp
                  exact HK.out
                · intro Lq wq xq hh
                  have d10 : Erg 10 (xq 10) wq := hh.val 10 (by kernel_rfl) (by kernel_rfl)
                  rw [Hrge10.out] at d10
                  have d11 : Erg 11 (xq 11) wq := hh.val 11 (by kernel_rfl) (by kernel_rfl)
                  rw [Hrge11.out] at d11
                  simp only [hFrg, d10, d11]
                  clear d10 d11
                  refine .inl ⟨rfl, ?_⟩
                  unfold Reg.upon
                  have hk := Hrgk.out 12 Lq wq  hh.cls
                  have hx := Hrgx.out wq
                  have he : Erg 12 (.bool true) wq := by rw [Hrge12.out]
                  have HK := Lib.hid (And.intro hk (And.intro he hx))
                  clear hk hx he
                  go_simp
                  exact HK.out
                · intro Lq wq xq hh
                  have d12 : Erg 12 (xq 12) wq := hh.val 12 (by kernel_rfl) (by kernel_rfl)
                  rw [Hrge12.out] at d12
                  simp only [hFrg, d12]
                  clear d12
                  refine .inl ⟨rfl, ?_⟩
                  unfold Reg.upon
                  have hc : Crg Lq wq := hh.cls
                  rw [HrghC.out] at hc
                  have hbx := HBX.out.below hc HBX.out.lt
                  have k0 := hbx.cell 0 _ rfl
                  have k1 := hbx.cell 1 _ rfl
                  clear hc
                  have hk := Hrgk.out 13 Lq wq  hh.cls
                  have hx := Hrgx.out wq
                  have he : Erg 13 (.agg #[.int .i64 K, .slice ua T.length uc]) wq := by rw [Hrge13.out]
                  have HK := Lib.hid (And.intro hk (And.intro he hx))
                  clear hk hx he
                  go_simp
                  exact HK.out
                · intro Lq wq xq hh
                  have d12 : Erg 12 (xq 12) wq := hh.val 12 (by kernel_rfl) (by kernel_rfl)
                  rw [Hrge12.out] at d12
                  have d13 : Erg 13 (xq 13) wq := hh.val 13 (by kernel_rfl) (by kernel_rfl)
                  rw [Hrge13.out] at d13
                  simp only [hFrg, d12, d13]
                  clear d12 d13
                  refine .inl ⟨rfl, ?_⟩
                  unfold Reg.upon
                  have hc : Crg Lq wq := hh.cls
                  rw [HrghC.out] at hc
                  have hb1 := (Below.refl wq.heap.size wq).alloc (Nat.le_refl _) (.cells #[.int .i64 K, .slice ua T.length uc] 37)
                  have hq1 : HeldE cellE (fun _ => True) (wq.alloc (.cells #[.int .i64 K, .slice ua T.length uc] 37)) (.slice (some ⟨wq.heap.size, 0, none⟩) 1 1) [(K, T)] := heldE_one (Y := fun _ => True) [.int .i64 K, .slice ua T.length uc] (K, T) (cell_rep.2 ⟨_, rfl, HU0.out.below hc⟩) (fun _ _ _ => trivial) trivial
                  go_simp
                  refine ⟨Hrgk.out 14 Lq _ (Hrgb.out Lq wq _ hh.cls hb1), ?_, Hrgxb.out wq _ hb1⟩
                  rw [Hrge14.out]
                  exact hq1
                · intro Lq wq xq hh
                  have d12 : Erg 12 (xq 12) wq := hh.val 12 (by kernel_rfl) (by kernel_rfl)
                  rw [Hrge12.out] at d12
                  simp only [hFrg, d12]
                  clear d12
                  refine .inl ⟨rfl, ?_⟩
                  unfold Reg.upon
                  have hk := Hrgk.out 15 Lq wq  hh.cls
                  have hx := Hrgx.out wq
                  have he : Erg 15 (.slice (some ⟨b, off, none⟩) L.length cb) wq := by rw [Hrge15.out]
                  have HK := Lib.hid (And.intro hk (And.intro he hx))
                  clear hk hx he
                  go_simp
                  exact HK.out
                · intro Lq wq xq hh
                  have d12 : Erg 12 (xq 12) wq := hh.val 12 (by kernel_rfl) (by kernel_rfl)
                  rw [Hrge12.out] at d12
                  simp only [hFrg, d12]
                  clear d12
                  refine .inl ⟨rfl, ?_⟩
                  unfold Reg.upon
                  have hk := Hrgk.out 16 Lq wq  hh.cls
                  have hx := Hrgx.out wq
                  have he : Erg 16 (.int .i64 k) wq := by rw [Hrge16.out]
                  have HK := Lib.hid (And.intro hk (And.intro he hx))
                  clear hk hx he
                  go_simp
                  exact HK.out
                · intro Lq wq xq hh
                  have d12 : Erg 12 (xq 12) wq := hh.val 12 (by kernel_rfl) (by kernel_rfl)
                  rw [Hrge12.out] at d12
                  have d15 : Erg 15 (xq 15) wq := hh.val 15 (by kernel_rfl) (by kernel_rfl)
                  rw [Hrge15.out] at d15
                  have d16 : Erg 16 (xq 16) wq := hh.val 16 (by kernel_rfl) (by kernel_rfl)
                  rw [Hrge16.out] at d16
                  simp only [hFrg, d12, d15, d16]
                  clear d12 d15 d16
                  refine .inl ⟨rfl, ?_⟩
                  unfold Reg.upon
                  have hk := Hrgk.out 17 Lq wq  hh.cls
                  have hx := Hrgx.out wq
                  have he : Erg 17 (.pointer (some ⟨b, off + k * 2, none⟩)) wq := by rw [Hrge17.out]
                  have HK := Lib.hid (And.intro hk (And.intro he hx))
                  clear hk hx he
                  go_simp
                  exact HK.out
                · intro Lq wq xq hh
                  have d12 : Erg 12 (xq 12) wq := hh.val 12 (by kernel_rfl) (by kernel_rfl)
                  rw [Hrge12.out] at d12
                  have d17 : Erg 17 (xq 17) wq := hh.val 17 (by kernel_rfl) (by kernel_rfl)
                  rw [Hrge17.out] at d17
                  simp only [hFrg, d12, d17]
                  clear d12 d17
                  refine .inl ⟨rfl, ?_⟩
                  unfold Reg.upon
                  have hc : Crg Lq wq := hh.cls
                  rw [HrghC.out] at hc
                  have hq8 := HCC.out wq (HB0.out.trans (hc.mono HB0.out.size))
                  obtain ⟨k0, k1⟩ := hq8
                  clear hc
                  have hk := Hrgk.out 18 Lq wq  hh.cls
                  have hx := Hrgx.out wq
                  have he : Erg 18 (.agg #[.int .i64 K, tv]) wq := by rw [Hrge18.out]
                  have HK := Lib.hid (And.intro hk (And.intro he hx))
                  clear hk hx he
                  go_simp
                  exact HK.out
                · intro Lq wq xq hh
                  have d12 : Erg 12 (xq 12) wq := hh.val 12 (by kernel_rfl) (by kernel_rfl)
                  rw [Hrge12.out] at d12
                  have d18 : Erg 18 (xq 18) wq := hh.val 18 (by kernel_rfl) (by kernel_rfl)
                  rw [Hrge18.out] at d18
                  simp only [hFrg, d12, d18]
                  clear d12 d18
                  refine .inl ⟨rfl, ?_⟩
                  unfold Reg.upon
                  have hc : Crg Lq wq := hh.cls
                  rw [HrghC.out] at hc
                  have hb1 := (Below.refl wq.heap.size wq).alloc (Nat.le_refl _) (.cells #[.int .i64 K, tv] 37)
                  have hq1 : HeldE cellE (fun _ => True) (wq.alloc (.cells #[.int .i64 K, tv] 37)) (.slice (some ⟨wq.heap.size, 0, none⟩) 1 1) [(K, T)] := heldE_one (Y := fun _ => True) [.int .i64 K, tv] (K, T) (cell_rep.2 ⟨_, rfl, (HH.out.below (HB0.out.trans (hc.mono HB0.out.size))).zone (fun _ _ _ => trivial)⟩) (fun _ _ _ => trivial) trivial
                  obtain ⟨ta, tc, htv⟩ := HH.out.len
                  subst htv
                  go_simp
                  refine ⟨Hrgk.out 19 Lq _ (Hrgb.out Lq wq _ hh.cls hb1), ?_, Hrgxb.out wq _ hb1⟩
                  rw [Hrge19.out]
                  exact hq1
                · intro Lq wq xq hh
                  have d12 : Erg 12 (xq 12) wq := hh.val 12 (by kernel_rfl) (by kernel_rfl)
                  rw [Hrge12.out] at d12
                  have d14 : Erg 14 (xq 14) wq := hh.val 14 (by kernel_rfl) (by kernel_rfl)
                  rw [Hrge14.out] at d14
                  have d19 : Erg 19 (xq 19) wq := hh.val 19 (by kernel_rfl) (by kernel_rfl)
                  rw [Hrge19.out] at d19
                  simp only [hFrg, d12]
                  clear d12
                  refine .inl ⟨rfl, ?_⟩
                  unfold Reg.upon
                  have hc : Crg Lq wq := hh.cls
                  rw [HrghC.out] at hc
                  have hq20 := rcsame_any _ _ _ _ _ _ wq d14 d19
                  rw [sameC_self] at hq20
                  go_simp
                  refine (hq20).mono ?_
                  rintro e w2 ⟨rfl, hb⟩
                  exact ⟨_, rfl, Hrgk.out 20 Lq w2  (Hrgb.out Lq wq w2 hh.cls hb), (by rw [Hrge20.out]; try rfl), Hrgxb.out wq w2 hb⟩
                · intro Lq wq xq hh
                  have d12 : Erg 12 (xq 12) wq := hh.val 12 (by kernel_rfl) (by kernel_rfl)
                  rw [Hrge12.out] at d12
                  have d20 : Erg 20 (xq 20) wq := hh.val 20 (by kernel_rfl) (by kernel_rfl)
                  rw [Hrge20.out] at d20
                  simp only [hFrg, d12, d20]
                  clear d12 d20
                  refine .inl ⟨rfl, ?_⟩
                  unfold Reg.upon
                  have hk := Hrgk.out 21 Lq wq  hh.cls
                  have hx := Hrgx.out wq
                  have he : Erg 21 (.bool false) wq := by rw [Hrge21.out]
                  have HK := Lib.hid (And.intro hk (And.intro he hx))
                  clear hk hx he
                  go_simp
                  exact HK.out
                · intro Lq wq xq hh
                  have d10 : Erg 10 (xq 10) wq := hh.val 10 (by kernel_rfl) (by kernel_rfl)
                  rw [Hrge10.out] at d10
                  have d12 : Erg 12 (xq 12) wq := hh.val 12 (by kernel_rfl) (by kernel_rfl)
                  rw [Hrge12.out] at d12
                  have d21 : Erg 21 (xq 21) wq := hh.val 21 (by kernel_rfl) (by kernel_rfl)
                  rw [Hrge21.out] at d21
                  simp only [hFrg, d10, d12, d21]
                  clear d10 d12 d21
                  refine .inl ⟨rfl, ?_⟩
                  unfold Reg.upon
                  have hk := Hrgk.out 22 Lq wq  hh.cls
                  have hx := Hrgx.out wq
                  have he : Erg 22 (.bool false) wq := by rw [Hrge22.out]
                  have HK := Lib.hid (And.intro hk (And.intro he hx))
                  clear hk hx he
                  go_simp
                  exact HK.out
                · intro Lq wq xq hh
                  have d10 : Erg 10 (xq 10) wq := hh.val 10 (by kernel_rfl) (by kernel_rfl)
                  rw [Hrge10.out] at d10
                  have d22 : Erg 22 (xq 22) wq := hh.val 22 (by kernel_rfl) (by kernel_rfl)
                  rw [Hrge22.out] at d22
                  simp only [hFrg, d10, d22]
                  clear d10 d22
                  refine .inl ⟨rfl, ?_⟩
                  unfold Reg.upon
                  have hk := Hrgk.out 23 Lq wq  hh.cls
                  have hx := Hrgx.out wq
                  have he : Erg 23 (.bool false) wq := by rw [Hrge23.out]
                  have HK := Lib.hid (And.intro hk (And.intro he hx))
                  clear hk hx he
                  go_simp
                  exact HK.out
                · intro Lq wq xq hh
                  have d23 : Erg 23 (xq 23) wq := hh.val 23 (by kernel_rfl) (by kernel_rfl)
                  rw [Hrge23.out] at d23
                  simp only [hFrg, d23]
                  clear d23
                  refine .inl ⟨rfl, ?_⟩
                  unfold Reg.upon
                  have hk := Hrgk.out 24 Lq wq  hh.cls
                  have hx := Hrgx.out wq
                  have he : Erg 24 (.bool false) wq := by rw [Hrge24.out]
                  have HK := Lib.hid (And.intro hk (And.intro he hx))
                  clear hk hx he
                  go_simp
                  exact HK.out
                · intro Lq wq xq hh
                  have d24 : Erg 24 (xq 24) wq := hh.val 24 (by kernel_rfl) (by kernel_rfl)
                  rw [Hrge24.out] at d24
                  simp only [hFrg, d24]
                  clear d24
                  refine .inl ⟨rfl, ?_⟩
                  unfold Reg.upon
                  have hk := Hrgk.out 25 Lq wq  hh.cls
                  have hx := Hrgx.out wq
                  have he : Erg 25 (.bool true) wq := by rw [Hrge25.out]
                  have HK := Lib.hid (And.intro hk (And.intro he hx))
                  clear hk hx he
                  go_simp
                  exact HK.out
                · intro Lq wq xq hh
                  have d24 : Erg 24 (xq 24) wq := hh.val 24 (by kernel_rfl) (by kernel_rfl)
                  rw [Hrge24.out] at d24
                  have d25 : Erg 25 (xq 25) wq := hh.val 25 (by kernel_rfl) (by kernel_rfl)
                  rw [Hrge25.out] at d25
                  simp only [hFrg, d24, d25]
                  clear d24 d25
                  refine .inl ⟨rfl, ?_⟩
                  unfold Reg.upon
                  have hk := Hrgk.out 26 Lq wq  hh.cls
                  have hx := Hrgx.out wq
                  have he : Erg 26 (.bool false) wq := by rw [Hrge26.out]
                  have HK := Lib.hid (And.intro hk (And.intro he hx))
                  clear hk hx he
                  go_simp
                  exact HK.out
                · intro Lq wq xq hh
                  have d24 : Erg 24 (xq 24) wq := hh.val 24 (by kernel_rfl) (by kernel_rfl)
                  rw [Hrge24.out] at d24
                  have d26 : Erg 26 (xq 26) wq := hh.val 26 (by kernel_rfl) (by kernel_rfl)
                  rw [Hrge26.out] at d26
                  simp only [hFrg, d24, d26]
                  clear d24 d26
                  refine .inl ⟨rfl, ?_⟩
                  unfold Reg.upon
                  have hk := Hrgk.out 27 Lq wq  hh.cls
                  have hx := Hrgx.out wq
                  have he : Erg 27 (.bool false) wq := by rw [Hrge27.out]
                  have HK := Lib.hid (And.intro hk (And.intro he hx))
                  clear hk hx he
                  go_simp
                  exact HK.out
                · intro Lq wq xq hh
                  have d27 : Erg 27 (xq 27) wq := hh.val 27 (by kernel_rfl) (by kernel_rfl)
                  rw [Hrge27.out] at d27
                  simp only [hFrg, d27]
                  clear d27
                  exact .inr ⟨rfl, Hrgk.out 28 Lq wq  hh.cls, (by rw [Hrge28.out])⟩
                · intro Lq wq xq hh
                  have d27 : Erg 27 (xq 27) wq := hh.val 27 (by kernel_rfl) (by kernel_rfl)
                  rw [Hrge27.out] at d27
                  have d28 : Erg 28 (xq 28) wq := hh.val 28 (by kernel_rfl) (by kernel_rfl)
                  rw [Hrge28.out] at d28
                  simp only [hFrg, d27, d28]
                  clear d27 d28
                  exact .inr ⟨rfl, Hrgk.out 29 Lq wq  hh.cls, (by rw [Hrge29.out])⟩
                · intro Lq wq xq hh
                  have d27 : Erg 27 (xq 27) wq := hh.val 27 (by kernel_rfl) (by kernel_rfl)
                  rw [Hrge27.out] at d27
                  have d29 : Erg 29 (xq 29) wq := hh.val 29 (by kernel_rfl) (by kernel_rfl)
                  rw [Hrge29.out] at d29
                  simp only [hFrg, d27, d29]
                  clear d27 d29
                  exact .inr ⟨rfl, Hrgk.out 30 Lq wq  hh.cls, (by rw [Hrge30.out])⟩
                · intro Lq wq xq hh
                  have d27 : Erg 27 (xq 27) wq := hh.val 27 (by kernel_rfl) (by kernel_rfl)
                  rw [Hrge27.out] at d27
                  have d30 : Erg 30 (xq 30) wq := hh.val 30 (by kernel_rfl) (by kernel_rfl)
                  rw [Hrge30.out] at d30
                  simp only [hFrg, d27, d30]
                  clear d27 d30
                  exact .inr ⟨rfl, Hrgk.out 31 Lq wq  hh.cls, (by rw [Hrge31.out])⟩
                · intro Lq wq xq hh
                  have d31 : Erg 31 (xq 31) wq := hh.val 31 (by kernel_rfl) (by kernel_rfl)
                  rw [Hrge31.out] at d31
                  simp only [hFrg, d31]
                  clear d31
                  exact .inr ⟨rfl, Hrgk.out 32 Lq wq  hh.cls, (by rw [Hrge32.out])⟩
                · intro Lq wq xq hh
                  have d31 : Erg 31 (xq 31) wq := hh.val 31 (by kernel_rfl) (by kernel_rfl)
                  rw [Hrge31.out] at d31
                  have d32 : Erg 32 (xq 32) wq := hh.val 32 (by kernel_rfl) (by kernel_rfl)
                  rw [Hrge32.out] at d32
                  simp only [hFrg, d31, d32]
                  clear d31 d32
                  exact .inr ⟨rfl, Hrgk.out 33 Lq wq  hh.cls, (by rw [Hrge33.out])⟩
                · intro Lq wq xq hh
                  have d31 : Erg 31 (xq 31) wq := hh.val 31 (by kernel_rfl) (by kernel_rfl)
                  rw [Hrge31.out] at d31
                  have d33 : Erg 33 (xq 33) wq := hh.val 33 (by kernel_rfl) (by kernel_rfl)
                  rw [Hrge33.out] at d33
                  simp only [hFrg, d31, d33]
                  clear d31 d33
                  exact .inr ⟨rfl, Hrgk.out 34 Lq wq  hh.cls, (by rw [Hrge34.out])⟩
                · intro Lq wq xq hh
                  have d31 : Erg 31 (xq 31) wq := hh.val 31 (by kernel_rfl) (by kernel_rfl)
                  rw [Hrge31.out] at d31
                  have d34 : Erg 34 (xq 34) wq := hh.val 34 (by kernel_rfl) (by kernel_rfl)
                  rw [Hrge34.out] at d34
                  simp only [hFrg, d31, d34]
                  clear d31 d34
                  exact .inr ⟨rfl, Hrgk.out 35 Lq wq  hh.cls, (by rw [Hrge35.out])⟩
                · intro Lq wq xq hh
                  have d27 : Erg 27 (xq 27) wq := hh.val 27 (by kernel_rfl) (by kernel_rfl)
                  rw [Hrge27.out] at d27
                  have d31 : Erg 31 (xq 31) wq := hh.val 31 (by kernel_rfl) (by kernel_rfl)
                  rw [Hrge31.out] at d31
                  have d35 : Erg 35 (xq 35) wq := hh.val 35 (by kernel_rfl) (by kernel_rfl)
                  rw [Hrge35.out] at d35
                  simp only [hFrg, d27, d31, d35]
                  clear d27 d31 d35
                  exact .inr ⟨rfl, Hrgk.out 36 Lq wq  hh.cls, (by rw [Hrge36.out])⟩
                · intro Lq wq xq hh
                  have d24 : Erg 24 (xq 24) wq := hh.val 24 (by kernel_rfl) (by kernel_rfl)
                  rw [Hrge24.out] at d24
                  have d27 : Erg 27 (xq 27) wq := hh.val 27 (by kernel_rfl) (by kernel_rfl)
                  rw [Hrge27.out] at d27
                  have d36 : Erg 36 (xq 36) wq := hh.val 36 (by kernel_rfl) (by kernel_rfl)
                  rw [Hrge36.out] at d36
                  simp only [hFrg, d24, d27, d36]
                  clear d24 d27 d36
                  refine .inl ⟨rfl, ?_⟩
                  unfold Reg.upon
                  have hk := Hrgk.out 37 Lq wq  hh.cls
                  have hx := Hrgx.out wq
                  have he : Erg 37 (.bool false) wq := by rw [Hrge37.out]
                  have HK := Lib.hid (And.intro hk (And.intro he hx))
                  clear hk hx he
                  go_simp
                  exact HK.out
                · intro Lq wq xq hh
                  have d24 : Erg 24 (xq 24) wq := hh.val 24 (by kernel_rfl) (by kernel_rfl)
                  rw [Hrge24.out] at d24
                  have d37 : Erg 37 (xq 37) wq := hh.val 37 (by kernel_rfl) (by kernel_rfl)
                  rw [Hrge37.out] at d37
                  simp only [hFrg, d24, d37]
                  clear d24 d37
                  refine .inl ⟨rfl, ?_⟩
                  unfold Reg.upon
                  have hk := Hrgk.out 38 Lq wq  hh.cls
                  have hx := Hrgx.out wq
                  have he : Erg 38 (.bool false) wq := by rw [Hrge38.out]
                  have HK := Lib.hid (And.intro hk (And.intro he hx))
                  clear hk hx he
                  go_simp
                  exact HK.out
              intro xq wrg hcrg hvrg
              rw [HrghC.out] at hcrg
              simp only [hFrg]
              have vrg38 : Erg 38 (xq 38) wrg := hvrg 38 (by decide)
              rw [Hrge38.out] at vrg38
              rw [vrg38]
              clear hvrg hFrg Hrgk Hrgx Hrgst Hrgc HrghC HrghX Hrgb Hrgxb Hrge0 Hrge1 Hrge2 Hrge3 Hrge4 Hrge5 Hrge6 Hrge7 Hrge8 Hrge9 Hrge10 Hrge11 Hrge12 Hrge13 Hrge14 Hrge15 Hrge16 Hrge17 Hrge18 Hrge19 Hrge20 Hrge21 Hrge22 Hrge23 Hrge24 Hrge25 Hrge26 Hrge27 Hrge28 Hrge29 Hrge30 Hrge31 Hrge32 Hrge33 Hrge34 Hrge35 Hrge36 Hrge37 Hrge38
              have HRQ := Lib.hid (HR0.out.below hcrg)
              have HBQ := Lib.hid (HB0.out.trans (hcrg.mono HB0.out.size))
              clear hcrg
              go_wp2
              go_roundw
              case rel => exact ⟨(k : Int) + 1, by omega, by omega, rfl, HRQ.out, HBQ.out⟩
              case measure => simp [intOf] <;> omega
          · go_wp2
            go_ret
            exact ⟨(ret_eq (by first | rfl | (simp <;> omega))), HBW.out⟩
set_option maxRecDepth 100000 in
theorem walk {H : Type} {enc : TypeId × Value → H} (W : World) (n : Int) (_ : (Lit.int .i64 n).wf = true) (u : Value) {base' : Nat} {d' : DataW H} {p' : List MemPlace} (hv' : Value.okWide Tryd.prog W .any base' 22 u) (h' : DataW.Trod enc Tryd.prog W 0 (fun _ => true) true 22 u d' p') (hL : laidMetH Tryd.prog Rows.rowMakesRow.laid W) : Calls Tryd.prog 3 #[.int .i64 n, u] W (Yes W) := by
  obtain ⟨M, hM, _⟩ := cells_arg hv' h'
  obtain ⟨sa, hsa⟩ := sents_of_row hL
  exact walkH W n u M _ hM sa hsa

theorem door_met (os : Os) : laidMetH Tryd.prog Rows.rowMakesRow.laid ((World.doorLaid Tryd.prog 400 os).forCall (fun _ _ => 0) ⟨#[], #[.int .i64 0, .slice none 0 0], []⟩).memory :=
  laidMetH_of_parts3 (fuel := 8) (laidMet_of_run' 8 (by kernel_rfl) (by kernel_rfl)) (by kernel_rfl) (by kernel_rfl)

set_option maxRecDepth 100000 in
theorem lifted (os : Os) (started : os.Started) (H : Type) (enc : TypeId × Value → H) :
    ReturnsInHanded {} Tryd.checked os 3 .any (fun w args => (Rows.rowMakesSpec.pre enc Tryd.prog Tryd.f3 [] false w args ∧ laidMetH Tryd.prog Rows.rowMakesRow.laid w) ∧ sizedMet enc Tryd.prog Tryd.f3 (OpenSpec.ofChange Rows.rowMakesSpec) false w args)
      (Rows.rowMakesSpec.post enc Tryd.prog Tryd.f3 false true false false) := by
  refine law_frame (C := Tryd.checked) (tb := 4) (by kernel_rfl) started (by kernel_rfl) Tryd.func3 (by kernel_rfl) (by kernel_rfl) Tryd.underlying4 rfl
    (by rw [Tryd.params3]; intro t ht; simp at ht; rcases ht with rfl | rfl <;> exact ⟨by kernel_rfl, of_decide_eq_true (by kernel_rfl)⟩)
    (by rw [Tryd.params3]; intro ds hd; match ds, hd with | [_, _], _ => rfl)
    (ChangeSpec.witness_shaped (enc := enc) (C := Tryd.checked) (os := os) (X := fun w _ => laidMetH Tryd.prog Rows.rowMakesRow.laid w) false (World.doorLaid Tryd.prog 400 os) #[.int .i64 0, .slice none 0 0] 8 rfl (World.shaped_of_RefB (by kernel_rfl) (by kernel_rfl)) (by kernel_rfl) (by kernel_rfl) (by kernel_rfl) (door_met os)) ?_
  intro W base args ds before hval hA hsz hL
  rw [Tryd.params3] at hA hval
  obtain ⟨v0, vs0, d0, ds0, p0, q0, hargs, rfl, rfl, h0, r0⟩ := trodAll_cons hA
  obtain ⟨v1, vs1, d1, ds1, p1, q1, rfl, rfl, rfl, h1, r1⟩ := trodAll_cons r0
  obtain ⟨rfl, rfl, rfl⟩ := trodAll_nil r1
  obtain rfl : args = #[v0, v1] := by cases args; simp_all
  obtain ⟨x0, rfl, rfl, rfl, wx0⟩ := open_int Tryd.underlying3 (hval 0 3 v0 rfl rfl) h0
  exact walk W x0 wx0 v1 (hval 1 22 v1 rfl rfl) h1 hL

theorem said : Rows.RowMakesSaid :=
  OpenClaim.holds_of_wide 3 Tryd.f3 rfl rfl rfl rfl rfl rfl rfl ⟨rfl, rfl, rfl, rfl, rfl⟩ rfl rfl rfl rfl rfl (by kernel_rfl) Tryd.func3 (by kernel_rfl)
    (of_decide_eq_true (by kernel_rfl)) (by unfold Func.isWrapper; first | (rw [if_pos (by decide +kernel)]; kernel_rfl) | (rw [if_neg (by decide +kernel)]; exact ⟨rfl, rfl⟩))
    (fun os started H enc _ => lifted os started H enc)

theorem plain (f : FuncId) (fn : Func) (hf : Tryd.pinned.checked.prog.funcNamed "linotype/linotypelaw24.RowMakes" = some f) (hfn : Tryd.pinned.checked.prog.funcs[f]? = some fn) :
    true = Tryd.pinned.checked.prog.looks [] ∧ ∀ (j : Nat) t, fn.params[j]? = some t → Tryd.pinned.checked.prog.wantsStandIn t = false := by
  obtain rfl : f = 3 := Option.some.inj ((show Tryd.prog.funcNamed "linotype/linotypelaw24.RowMakes" = some 3 by kernel_rfl).symm.trans hf) |>.symm
  obtain rfl : fn = Tryd.f3 := (Option.some.inj (Tryd.func3.symm.trans hfn)).symm
  refine ⟨by kernel_rfl, fun j t ht => ?_⟩
  rw [Tryd.params3] at ht
  have hm : t ∈ [3, 22] := by simpa using Array.mem_of_getElem? ht
  have hall : ([3, 22].all fun u => !Tryd.prog.wantsStandIn u) = true := by kernel_rfl
  exact (show Tryd.prog.wantsStandIn t = false by simpa using List.all_eq_true.1 hall t hm)

/-- THE CARD. -/
theorem card : Rows.RowMakesCardSaid :=
  Claim7.holds_tied_plain_at .later [] _ _ _ _ said (fun _ h => by cases h) (by kernel_rfl) (fun _ h => by cases h) rowMakes_row_tie rfl ⟨rfl, rfl⟩ (by kernel_rfl) rfl plain (by kernel_rfl)
#print axioms card

end Go.Proofs.YtfkeeigaocmalaaDoor.lawRowMakes
