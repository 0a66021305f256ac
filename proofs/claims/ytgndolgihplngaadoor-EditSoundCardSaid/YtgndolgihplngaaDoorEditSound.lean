/- EditSound (38.2) answers true at all lines, cursors, marks and edits, and turns nothing. No condition. -/
import Derived.Test.YtgndolgihplngaaDoorEdtW
import Derived.Test.YtgndolgihplngaaDoorMg7
import Derived.Test.YtgndolgihplngaaDoorMg1
import Derived.Test.YtgndolgihplngaaDoorCellS
import Derived.Test.YtgndolgihplngaaDoorCards
import Derived.Test.YtgndolgihplngaaDoorTie
import Derived.ProofKit
import Derived.Lib.MinMax
namespace Go.Proofs.YtgndolgihplngaaDoor.lawEditSound
open Go.ChangeShapes Go.WideShapes Go.ChangeAt Go.RowKit
theorem in_nat8 (r : Int) {n : Nat} (h : 0 < n) (hn : n ≤ 1024) : ∃ r2 : Nat, inI r (sideI n) = (r2 : Int) ∧ r2 < n := by
  have hs : sideI n = (n : Int) := by unfold sideI; omega
  rw [hs]
  refine ⟨(inI r n).toNat, ?_, ?_⟩ <;> unfold inI <;> (repeat' split) <;> omega
theorem start_boxes (w : World) (a0 a1 a2 a3 a4 b0 b1 b2 b3 : Value) : ∃ W, W = (w.alloc (.cells #[a0, a1, a2, a3, a4] 26)).alloc (.cells #[b0, b1, b2, b3] 47) ∧
    Has W w.heap.size [a0, a1, a2, a3, a4] 26 ∧ Has W (w.heap.size + 1) [b0, b1, b2, b3] 47 ∧ Below w.heap.size w W := by
  refine ⟨_, rfl, (Has.new w _ _).alloc _, ?_, ((Below.refl _ _).alloc (Nat.le_refl _) _).alloc (by simp) _⟩
  have := Has.new (w.alloc (.cells #[a0, a1, a2, a3, a4] 26)) [b0, b1, b2, b3] 47
  simpa using this
set_option maxRecDepth 100000 in
set_option maxHeartbeats 16000000 in
theorem walkH (W : World) (va : Value) (Ls : List Ln) (P Q : Int) (S au : Bool) (K A C : Int) (bo : Option Addr) (bn bk : Nat) (Z : Zone) (ha : HeldE lineE Z W va Ls) (sa : Nat → Addr) (hsa : Sents W sa) : Calls Tryd.prog 4 #[.agg #[va, .int .i64 P, .int .i64 Q, .bool S, .bool au], .agg #[.int .i64 K, .int .i64 A, .int .i64 C, .slice bo bn bk]] W (Yes W) := by
  have hla := ha.max
  have ha := ha.lower
  obtain ⟨ao, ca, rfl⟩ := ha.len
  obtain ⟨n, hn⟩ : ∃ n, n = Ls.length := ⟨_, rfl⟩
  have HN := Lib.hid hn
  rw [← hn] at ha hla ⊢
  have HA := Lib.hid ha
  have HSA := Lib.hid hsa
  have HWR := Lib.hid (show ∀ w', Below W.heap.size W w' → Calls Tryd.prog 8 #[.slice ao n ca] w' (WrongTold w' Ls) from fun w' h => rlwrong_any _ _ Ls w' (HA.out.below h))
  obtain ⟨W0, hW0, hs0, ho0, hb0⟩ := start_boxes W (Value.slice ao n ca) (.int .i64 P) (.int .i64 Q) (.bool S) (.bool au) (.int .i64 K) (.int .i64 A) (.int .i64 C) (.slice bo bn bk)
  obtain ⟨gx, hgx⟩ : ∃ gx, gx = W.heap.size := ⟨_, rfl⟩
  have HGX := Lib.hid hgx
  rw [← hgx] at hs0 ho0
  obtain ⟨gy, hgy⟩ : ∃ gy, gy = gx + 1 := ⟨_, rfl⟩
  have HGY := Lib.hid hgy
  rw [← hgy] at ho0
  have HB0 := Lib.hid hb0
  have HX0 := Lib.hid hs0
  have HO0 := Lib.hid ho0
  clear ha hn hb0 hs0 ho0 hsa hgx hgy
  go_enter Tryd.func4, Tryd.ntmps4
  go_upto_region 1 with (fail)
  rw [← hW0, ← HGX.out, ← HGY.out]
  clear hW0
  have x0 := HX0.out.cell 0 _ rfl
  go_wp2_with fail
  refine (HWR.out W0 HB0.out).mono ?_
  rintro e w0 hq
  obtain ⟨at_, acc, rfl, hat, b0⟩ := hq.say
  clear hq
  have HA0 := Lib.hid hat
  have B2 := Lib.hid (HB0.out.trans (b0.mono HB0.out.size))
  have HX1 := Lib.hid (HX0.out.below b0 HX0.out.lt)
  have HO1 := Lib.hid (HO0.out.below b0 HO0.out.lt)
  clear b0 hat x0 HX0 HO0
  go_wp2_with fail
  refine (works38_any sa _ (HSA.out.below B2.out)).mono ?_
  rintro e w2 ⟨rfl, b2⟩
  have B3 := Lib.hid (B2.out.trans (b2.mono B2.out.size))
  have HX2 := Lib.hid (HX1.out.below b2 HX1.out.lt)
  have HO2 := Lib.hid (HO1.out.below b2 HO1.out.lt)
  have d1 := HX2.out.cell 0 _ rfl
  clear b2 HX1 HO1 B2
  by_cases h1 : 40 < n
  · have hd : decide ((40 : Int) < n) = true := by rw [decide_eq_true_eq]; omega
    have hdn : decide (40 < n) = true := by rw [decide_eq_true_eq]; omega
    go_wp2_with fail
    refine (works38_any sa _ (HSA.out.below B3.out)).mono ?_
    rintro e w3 ⟨rfl, b3⟩
    have BB := B3.out.trans (b3.mono B3.out.size)
    go_wp2
    go_ret
    exact ⟨(ret_eq (by first | rfl | (simp <;> omega))), BB⟩

  have hd20 : decide ((40 : Int) < n) = false := by rw [decide_eq_false_iff_not]; omega
  have hd20n : decide (40 < n) = false := by rw [decide_eq_false_iff_not]; omega
  by_cases h0 : n = 0
  · have hz : ((n : Int) == 0) = true := by rw [beq_iff_eq]; omega
    clear h0 h1
    go_wp2_with fail
    refine (works38_any sa _ (HSA.out.below B3.out)).mono ?_
    rintro e w3 ⟨rfl, b3⟩
    have BB := B3.out.trans (b3.mono B3.out.size)
    go_wp2
    go_ret
    exact ⟨(ret_eq (by first | rfl | (simp <;> omega))), BB⟩

  have hz : ((n : Int) == 0) = false := by rw [beq_eq_false_iff_ne]; omega
  by_cases hall : AllGood Ls
  rotate_left
  · have hge : decide ((0 : Int) ≤ at_) = true := by rw [decide_eq_true_eq]; rcases HA0.out with h | h; exact absurd h.1 hall; exact h.1
    go_wp2_with fail
    refine (works38_any sa _ (HSA.out.below B3.out)).mono ?_
    rintro e w3 ⟨rfl, b3⟩
    have BB := B3.out.trans (b3.mono B3.out.size)
    go_wp2
    go_ret
    exact ⟨(ret_eq (by first | rfl | (simp <;> omega))), BB⟩

  obtain rfl : at_ = -1 := by rcases HA0.out with h | h; exact h.2; exact absurd hall h.2
  have y0 := HO2.out.cell 0 _ rfl
  have y1 := HO2.out.cell 1 _ rfl
  have y2 := HO2.out.cell 2 _ rfl
  have y3 := HO2.out.cell 3 _ rfl
  obtain ⟨wc, hwc⟩ : ∃ wc, wc = wrC K A := ⟨_, rfl⟩
  have hrw := rwr_any K A C bo bn bk w2
  rw [← hwc] at hrw
  have HRW := Lib.hid hrw
  have HWC := Lib.hid hwc
  clear hrw hwc
  by_cases hw0 : wc = 0
  rotate_left
  · have hne : ((wc : Int) != 0) = true := by rw [bne_iff_ne]; omega
    clear hw0
    go_wp2_with fail
    refine HRW.out.mono ?_
    rintro e w8 ⟨rfl, b8⟩
    have B8 := Lib.hid (B3.out.trans (b8.mono B3.out.size))
    clear b8
    go_wp2_with fail
    refine (works38_any sa _ (HSA.out.below B8.out)).mono ?_
    rintro e w3 ⟨rfl, b3⟩
    have BB := B8.out.trans (b3.mono B8.out.size)
    go_wp2
    go_ret
    exact ⟨(ret_eq (by first | rfl | (simp <;> omega))), BB⟩

  have hne : ((wc : Int) != 0) = false := by rw [hw0]; rfl
  have HW0 := Lib.hid (show wrC K A = 0 from by rw [← HWC.out]; exact hw0)
  clear hw0
  go_wp2_with fail
  refine HRW.out.mono ?_
  rintro e w1 ⟨rfl, b8⟩
  have B8 := Lib.hid (B3.out.trans (b8.mono B3.out.size))
  have HX8 := Lib.hid (HX2.out.below b8 HX2.out.lt)
  have HO8 := Lib.hid (HO2.out.below b8 HO2.out.lt)
  clear b8 y0 y1 y2 y3 d1 HX2 HO2 B3
  have d1 := HX8.out.cell 0 _ rfl
  have HALL := Lib.hid hall
  have hg := gof_good _ _ Ls w1 HALL.out (HA.out.below B8.out) (by rw [← HN.out]; omega) (by rw [← HN.out]; omega)
  have HG := Lib.hid hg
  obtain ⟨bA, oA, _, eA, _⟩ := (lines_at HA.out).2.2 0 (by rw [← HN.out]; omega)
  subst eA
  have HCA := Lib.hid (show ∀ w', Below W.heap.size W w' → ∃ cv, w'.cell? ⟨bA, oA + 0 * 2, none⟩ = some cv ∧ HeldE cellE _ w' cv (Ls.getD 0 zl).1 from fun w' hb => by
    obtain ⟨b, off, cv, e1, _, _, e4, _, e6⟩ := (lines_at (HA.out.below hb)).2.2 0 (by rw [← HN.out]; omega)
    cases e1
    exact ⟨cv, e4, e6⟩)
  have HCP := Lib.hid (show n ≤ ca from (lines_at HA.out).2.1)
  clear hall hg HA0 HWR HRW
  go_wp2_with fail
  refine HG.out.mono ?_
  rintro e w3 ⟨gg, gr, Rs, rfl, hg3, hm3, b3⟩
  have hb4 := (Below.refl w3.heap.size w3).alloc (Nat.le_refl _) (.cells [Value.pointer (some ⟨gg, 0, none⟩), .int .i64 P, .int .i64 Q, .bool S, .bool au].toArray 38)
  have hn4 := Has.new w3 [Value.pointer (some ⟨gg, 0, none⟩), .int .i64 P, .int .i64 Q, .bool S, .bool au] 38
  obtain ⟨W4, hW4⟩ : ∃ W4, W4 = w3.alloc (.cells [Value.pointer (some ⟨gg, 0, none⟩), .int .i64 P, .int .i64 Q, .bool S, .bool au].toArray 38) := ⟨_, rfl⟩
  rw [← hW4] at hb4 hn4
  obtain ⟨gp, hgp⟩ : ∃ gp, gp = w3.heap.size := ⟨_, rfl⟩
  rw [← hgp] at hn4
  obtain ⟨wd, hwd⟩ : ∃ wd, wd = firstN Ls := ⟨_, rfl⟩
  have HWD := Lib.hid (show (Ls.getD 0 zl).1.length = wd from hwd.symm)
  rw [← hwd] at hg3
  obtain ⟨BP, hBP⟩ : ∃ BP, BP = w1.heap.size := ⟨_, rfl⟩
  have hpa : PenAt W4 BP gp gg gr wd Rs Ls P Q S au := ⟨hn4, by rw [hBP, hgp]; exact b3.size, by rw [hBP]; exact hg3.below hb4, hm3⟩
  have HW4 := Lib.hid (show W4 = w3.alloc (.cells #[Value.pointer (some ⟨gg, 0, none⟩), .int .i64 P, .int .i64 Q, .bool S, .bool au] 38) from hW4)
  have HGP := Lib.hid hgp
  have HP4 := Lib.hid hpa
  have HBP := Lib.hid (show W.heap.size ≤ BP from by rw [hBP]; exact B8.out.size)
  have HGB := Lib.hid (show gx < BP from by rw [hBP]; exact HX8.out.lt)
  have hs := hpa.sizes
  have HEV := Lib.hid (show Even Ls wd from ⟨hs.1, by rw [← HN.out]; omega, hs.2.2.1, hs.2.2.2.1, hs.2.2.2.2.2⟩)
  have HX4 := Lib.hid ((HX8.out.below b3 HX8.out.lt).below hb4 (Nat.lt_of_lt_of_le HX8.out.lt b3.size))
  have HO4 := Lib.hid ((HO8.out.below b3 HO8.out.lt).below hb4 (Nat.lt_of_lt_of_le HO8.out.lt b3.size))
  have B4 := Lib.hid ((B8.out.trans (b3.mono B8.out.size)).trans (hb4.mono (Nat.le_trans B8.out.size b3.size)))
  have h73 := HX8.out.below b3 HX8.out.lt
  have z1 := h73.cell 1 _ rfl
  have z2 := h73.cell 2 _ rfl
  have z3 := h73.cell 3 _ rfl
  have z4 := h73.cell 4 _ rfl
  obtain ⟨r2, hr2, hlr⟩ := in_nat8 P hs.1 hs.2.1
  obtain ⟨c2, hc2, hlc⟩ := in_nat8 Q hs.2.2.1 hs.2.2.2.1
  have hrg := ed_range HEV.out hlr hlc K A C
  obtain ⟨LP, hLP⟩ : ∃ LP, LP = edL Ls r2 c2 K A := ⟨_, rfl⟩
  obtain ⟨rr, hrr⟩ : ∃ rr, rr = edR r2 K A Ls.length := ⟨_, rfl⟩
  obtain ⟨cc, hcc⟩ : ∃ cc, cc = edC c2 K C wd := ⟨_, rfl⟩
  obtain ⟨uu, huu⟩ : ∃ uu, uu = edU K A au := ⟨_, rfl⟩
  have HPU := Lib.hid (show ∀ w', PenAt w' BP gp gg gr wd Rs Ls P Q S au → Calls Tryd.prog 16 #[.pointer (some ⟨gp, 0, none⟩), .agg #[.int .i64 K, .int .i64 A, .int .i64 C, .slice bo bn bk]] w' (fun e w2 => e = .returned .nilIface ∧ PDo w' BP gp gg gr wd Rs LP rr cc false uu w2) from fun w' h => by
    rw [hLP, hrr, hcc, huu]
    exact edo_any BP gp gg gr wd Rs Ls P Q S au K A C bo bn bk w' h r2 c2 hr2 hc2 hlr HW0.out)
  have HLN := Lib.hid (show LP.length = n from by rw [hLP, edL_len, HN.out])
  rw [← hrr, ← hcc, ← HN.out] at hrg
  have HRT := Lib.hid (show curRightB rr cc false wd n = true from by
    have hsw : sideI (wd : Int) = (wd : Int) := by unfold sideI; have := HEV.out.2.2.1; have := HEV.out.2.2.2.1; omega
    have hsh : sideI (n : Int) = (n : Int) := by unfold sideI; have := HEV.out.1; have := HEV.out.2.1; have := HN.out; omega
    refine (right_iff _ _ _ _ _).2 ?_
    rw [hsw, hsh]
    exact ⟨by omega, by omega, by omega, by omega, fun e => by cases e⟩)
  clear hr2 hc2 hlr hlc hs hpa hW4 hgp hwd hBP hb4 hn4 hg3 hm3 b3 h73 HG hrg hLP hrr hcc huu
  go_upto_region 8 with (fail)
  rw [← HW4.out, ← HGP.out]
  clear z1 z2 z3 z4 d1
  obtain ⟨Erg, hErg⟩ : ∃ EE : Nat → Value → World → Prop, EE = fun jj xx ww => match jj with
      | 0 => xx = .pointer (some ⟨gp, 0, none⟩)
      | 1 => xx = .agg #[.int .i64 K, .int .i64 A, .int .i64 C, .slice bo bn bk]
      | 2 => xx = .nilIface
      | 3 => xx = .bool false
      | 4 => xx = .bool false
      | 5 => xx = .pointer (some ⟨gp, 0, none⟩)
      | 6 => xx = .pointer (some ⟨gp, 0, none⟩)
      | 7 => xx = .pointer (some ⟨gp, 1, none⟩)
      | 8 => xx = .pointer (some ⟨gp, 3, none⟩)
      | 9 => xx = .bool false
      | 10 => xx = .bool false
      | 11 => xx = .bool false
      | 12 => xx = .pointer (some ⟨gp, 0, none⟩)
      | 13 => xx = .pointer (some ⟨gp, 0, none⟩)
      | 14 => xx = .pointer (some ⟨gp, 1, none⟩)
      | 15 => xx = .agg #[.int .i64 rr, .int .i64 cc, .bool false]
      | 16 => xx = .pointer (some ⟨gg, 0, none⟩)
      | 17 => xx = .int .i64 wd
      | 18 => xx = .pointer (some ⟨gg, 0, none⟩)
      | 19 => xx = .int .i64 n
      | 20 => xx = .bool true
      | 21 => xx = .bool false
      | 22 => xx = .bool false
      | _ => True := ⟨_, rfl⟩
  have erg0 : ∀ xx ww, Erg 0 xx ww = (xx = .pointer (some ⟨gp, 0, none⟩)) := fun xx ww => congrFun (congrFun (congrFun hErg 0) xx) ww
  have erg1 : ∀ xx ww, Erg 1 xx ww = (xx = .agg #[.int .i64 K, .int .i64 A, .int .i64 C, .slice bo bn bk]) := fun xx ww => congrFun (congrFun (congrFun hErg 1) xx) ww
  have erg2 : ∀ xx ww, Erg 2 xx ww = (xx = .nilIface) := fun xx ww => congrFun (congrFun (congrFun hErg 2) xx) ww
  have erg3 : ∀ xx ww, Erg 3 xx ww = (xx = .bool false) := fun xx ww => congrFun (congrFun (congrFun hErg 3) xx) ww
  have erg4 : ∀ xx ww, Erg 4 xx ww = (xx = .bool false) := fun xx ww => congrFun (congrFun (congrFun hErg 4) xx) ww
  have erg5 : ∀ xx ww, Erg 5 xx ww = (xx = .pointer (some ⟨gp, 0, none⟩)) := fun xx ww => congrFun (congrFun (congrFun hErg 5) xx) ww
  have erg6 : ∀ xx ww, Erg 6 xx ww = (xx = .pointer (some ⟨gp, 0, none⟩)) := fun xx ww => congrFun (congrFun (congrFun hErg 6) xx) ww
  have erg7 : ∀ xx ww, Erg 7 xx ww = (xx = .pointer (some ⟨gp, 1, none⟩)) := fun xx ww => congrFun (congrFun (congrFun hErg 7) xx) ww
  have erg8 : ∀ xx ww, Erg 8 xx ww = (xx = .pointer (some ⟨gp, 3, none⟩)) := fun xx ww => congrFun (congrFun (congrFun hErg 8) xx) ww
  have erg9 : ∀ xx ww, Erg 9 xx ww = (xx = .bool false) := fun xx ww => congrFun (congrFun (congrFun hErg 9) xx) ww
  have erg10 : ∀ xx ww, Erg 10 xx ww = (xx = .bool false) := fun xx ww => congrFun (congrFun (congrFun hErg 10) xx) ww
  have erg11 : ∀ xx ww, Erg 11 xx ww = (xx = .bool false) := fun xx ww => congrFun (congrFun (congrFun hErg 11) xx) ww
  have erg12 : ∀ xx ww, Erg 12 xx ww = (xx = .pointer (some ⟨gp, 0, none⟩)) := fun xx ww => congrFun (congrFun (congrFun hErg 12) xx) ww
  have erg13 : ∀ xx ww, Erg 13 xx ww = (xx = .pointer (some ⟨gp, 0, none⟩)) := fun xx ww => congrFun (congrFun (congrFun hErg 13) xx) ww
  have erg14 : ∀ xx ww, Erg 14 xx ww = (xx = .pointer (some ⟨gp, 1, none⟩)) := fun xx ww => congrFun (congrFun (congrFun hErg 14) xx) ww
  have erg15 : ∀ xx ww, Erg 15 xx ww = (xx = .agg #[.int .i64 rr, .int .i64 cc, .bool false]) := fun xx ww => congrFun (congrFun (congrFun hErg 15) xx) ww
  have erg16 : ∀ xx ww, Erg 16 xx ww = (xx = .pointer (some ⟨gg, 0, none⟩)) := fun xx ww => congrFun (congrFun (congrFun hErg 16) xx) ww
  have erg17 : ∀ xx ww, Erg 17 xx ww = (xx = .int .i64 wd) := fun xx ww => congrFun (congrFun (congrFun hErg 17) xx) ww
  have erg18 : ∀ xx ww, Erg 18 xx ww = (xx = .pointer (some ⟨gg, 0, none⟩)) := fun xx ww => congrFun (congrFun (congrFun hErg 18) xx) ww
  have erg19 : ∀ xx ww, Erg 19 xx ww = (xx = .int .i64 n) := fun xx ww => congrFun (congrFun (congrFun hErg 19) xx) ww
  have erg20 : ∀ xx ww, Erg 20 xx ww = (xx = .bool true) := fun xx ww => congrFun (congrFun (congrFun hErg 20) xx) ww
  have erg21 : ∀ xx ww, Erg 21 xx ww = (xx = .bool false) := fun xx ww => congrFun (congrFun (congrFun hErg 21) xx) ww
  have erg22 : ∀ xx ww, Erg 22 xx ww = (xx = .bool false) := fun xx ww => congrFun (congrFun (congrFun hErg 22) xx) ww
  obtain ⟨Crg, hCrg⟩ : ∃ CC : Array Bool → World → Prop, CC = fun L8 w' => Below W.heap.size W w' ∧ (Mix.one L8 2 = 0 → PenAt w' BP gp gg gr wd Rs Ls P Q S au ∧ Has w' gy [.int .i64 K, .int .i64 A, .int .i64 C, .slice bo bn bk] 47) ∧ (Mix.one L8 2 = 1 → ∃ R2, PenAt w' BP gp gg gr wd R2 LP rr cc false uu) ∧ Has w' gx [.slice (some ⟨bA, oA, none⟩) n ca, .int .i64 P, .int .i64 Q, .bool S, .bool au] 26 := ⟨_, rfl⟩
  have krg : ∀ i L w, i ≠ 2 →  Crg L w → Crg (L.setIfInBounds i true) w := by
    intro i L w q2 h
    rw [hCrg] at h ⊢
    simp only [Mix.one_ne q2]; exact h
  obtain ⟨Xrg, hXrg⟩ : ∃ XX : World → World → Prop, XX = fun _ _ => True := ⟨_, rfl⟩
  have xrg : ∀ w, Xrg w w := fun w => by rw [hXrg]; exact trivial
  have strg : ∀ j x w w1, Xrg w w1 → Erg j x w → Erg j x w1 := by
    intro j x w w1 hx h
    rw [hXrg] at hx
    match j with
    | 0 => rw [erg0] at h ⊢; exact h
    | 1 => rw [erg1] at h ⊢; exact h
    | 2 => rw [erg2] at h ⊢; exact h
    | 3 => rw [erg3] at h ⊢; exact h
    | 4 => rw [erg4] at h ⊢; exact h
    | 5 => rw [erg5] at h ⊢; exact h
    | 6 => rw [erg6] at h ⊢; exact h
    | 7 => rw [erg7] at h ⊢; exact h
    | 8 => rw [erg8] at h ⊢; exact h
    | 9 => rw [erg9] at h ⊢; exact h
    | 10 => rw [erg10] at h ⊢; exact h
    | 11 => rw [erg11] at h ⊢; exact h
    | 12 => rw [erg12] at h ⊢; exact h
    | 13 => rw [erg13] at h ⊢; exact h
    | 14 => rw [erg14] at h ⊢; exact h
    | 15 => rw [erg15] at h ⊢; exact h
    | 16 => rw [erg16] at h ⊢; exact h
    | 17 => rw [erg17] at h ⊢; exact h
    | 18 => rw [erg18] at h ⊢; exact h
    | 19 => rw [erg19] at h ⊢; exact h
    | 20 => rw [erg20] at h ⊢; exact h
    | 21 => rw [erg21] at h ⊢; exact h
    | 22 => rw [erg22] at h ⊢; exact h
    | j + 23 => rw [hErg]; trivial
  have crg : Crg (Array.replicate 23 false) W4.drew := by rw [hCrg]; exact ⟨B4.out.trans ((Below.refl W4.heap.size W4).drew.mono B4.out.size), fun _ => ⟨HP4.out.below (Below.refl _ _).drew, HO4.out.below (Below.refl _ _).drew HO4.out.lt⟩, fun e => absurd e (by decide), HX4.out.below (Below.refl _ _).drew HX4.out.lt⟩
  have brg : ∀ L w w1, Crg L w → Below w.heap.size w w1 → Crg L w1 := by
    intro L w w1 h hb
    rw [hCrg] at h ⊢
    (obtain ⟨q1, q2, q3, q4⟩ := h; exact ⟨q1.trans (hb.mono q1.size), fun e => ⟨(q2 e).1.below hb, (q2 e).2.below hb (q2 e).2.lt⟩, fun e => by obtain ⟨a1, h1⟩ := q3 e; exact ⟨a1, h1.below hb⟩, q4.below hb q4.lt⟩)
  have xbrg : ∀ w w1, Below w.heap.size w w1 → Xrg w w1 := by
    intro w w1 hb
    rw [hXrg]
    trivial
  have Hrgb := Lib.hid brg
  have Hrgxb := Lib.hid xbrg
  clear brg xbrg
  clear hErg
  have Hrgk := Lib.hid krg
  have Hrgx := Lib.hid xrg
  have Hrgst := Lib.hid strg
  have Hrgc := Lib.hid crg
  have HrghC := Lib.hid hCrg
  have HrghX := Lib.hid hXrg
  have Hrge0 := Lib.hid erg0
  have Hrge1 := Lib.hid erg1
  have Hrge2 := Lib.hid erg2
  have Hrge3 := Lib.hid erg3
  have Hrge4 := Lib.hid erg4
  have Hrge5 := Lib.hid erg5
  have Hrge6 := Lib.hid erg6
  have Hrge7 := Lib.hid erg7
  have Hrge8 := Lib.hid erg8
  have Hrge9 := Lib.hid erg9
  have Hrge10 := Lib.hid erg10
  have Hrge11 := Lib.hid erg11
  have Hrge12 := Lib.hid erg12
  have Hrge13 := Lib.hid erg13
  have Hrge14 := Lib.hid erg14
  have Hrge15 := Lib.hid erg15
  have Hrge16 := Lib.hid erg16
  have Hrge17 := Lib.hid erg17
  have Hrge18 := Lib.hid erg18
  have Hrge19 := Lib.hid erg19
  have Hrge20 := Lib.hid erg20
  have Hrge21 := Lib.hid erg21
  have Hrge22 := Lib.hid erg22
  clear krg xrg strg crg hCrg hXrg erg0 erg1 erg2 erg3 erg4 erg5 erg6 erg7 erg8 erg9 erg10 erg11 erg12 erg13 erg14 erg15 erg16 erg17 erg18 erg19 erg20 erg21 erg22
  go_wp2_with fail
  refine Reg.regionF Erg Crg Xrg Hrgst.out (by kernel_rfl) (by kernel_rfl) (by kernel_rfl) Hrgc.out (fun Frg hFrg => ?_)
  simp only [Reg.frame, Reg.dsts, List.map_cons, List.map_nil, Mix.put_lit, List.set_cons_succ, List.set_cons_zero, Nat.zero_add, Nat.reduceAdd] at hFrg
  refine ⟨?_, ?_⟩
  · refine ⟨?_, ?_, ?_, ?_, ?_, ?_, ?_, ?_, ?_, ?_, ?_, ?_, ?_, ?_, ?_, ?_, ?_, ?_, ?_, ?_, ?_, ?_, ?_, trivial⟩
    · intro Lq wq xq hh
      simp only [hFrg]
      refine .inl ⟨rfl, ?_⟩
      unfold Reg.upon
      have hk := Hrgk.out 0 Lq wq (by decide)  hh.cls
      have hx := Hrgx.out wq
      have he : Erg 0 (.pointer (some ⟨gp, 0, none⟩)) wq := by rw [Hrge0.out]
      have HK := Lib.hid (And.intro hk (And.intro he hx))
      clear hk hx he
      go_simp
      exact HK.out
    · intro Lq wq xq hh
      simp only [hFrg]
      refine .inl ⟨rfl, ?_⟩
      unfold Reg.upon
      have hc : Crg Lq wq := hh.cls
      rw [HrghC.out] at hc
      have hq := (hc.2.1 (Mix.one_un (hh.notYet 2 (by kernel_rfl)))).2
      have y0 := hq.cell 0 _ rfl
      have y1 := hq.cell 1 _ rfl
      have y2 := hq.cell 2 _ rfl
      have y3 := hq.cell 3 _ rfl
      clear hc
      have hk := Hrgk.out 1 Lq wq (by decide)  hh.cls
      have hx := Hrgx.out wq
      have he : Erg 1 (.agg #[.int .i64 K, .int .i64 A, .int .i64 C, .slice bo bn bk]) wq := by rw [Hrge1.out]
      have HK := Lib.hid (And.intro hk (And.intro he hx))
      clear hk hx he
      go_simp
      exact HK.out
    · intro Lq wq xq hh
      have d0 : Erg 0 (xq 0) wq := hh.val 0 (by kernel_rfl) (by kernel_rfl)
      rw [Hrge0.out] at d0
      have d1 : Erg 1 (xq 1) wq := hh.val 1 (by kernel_rfl) (by kernel_rfl)
      rw [Hrge1.out] at d1
      simp only [hFrg, d0, d1]
      clear d0 d1
      refine .inl ⟨rfl, ?_⟩
      unfold Reg.upon
      have hc : Crg Lq wq := hh.cls
      rw [HrghC.out] at hc
      have hq := (hc.2.1 hh.un).1
      have hbw : BP ≤ wq.heap.size := Nat.le_trans hq.2.1 (Nat.le_of_lt hq.lt)
      go_simp
      refine (HPU.out wq hq).mono ?_
      rintro e w2 ⟨rfl, k2⟩
      have hb2 := k2.belowB hq hbw
      obtain ⟨R2, k1, k4, k3⟩ := k2
      have hF : Crg (Lq.setIfInBounds 2 true) w2 := by
        rw [HrghC.out]
        refine ⟨hc.1.trans (hb2.mono HBP.out), fun e => ?_, fun _ => ⟨R2, k1⟩, hc.2.2.2.below hb2 HGB.out⟩
        rw [Mix.one_set (by rw [hh.size]; decide)] at e
        exact absurd e (by decide)
      exact ⟨_, rfl, hF, (by rw [Hrge2.out]), (by rw [HrghX.out]; trivial)⟩
    · intro Lq wq xq hh
      have d2 : Erg 2 (xq 2) wq := hh.val 2 (by kernel_rfl) (by kernel_rfl)
      rw [Hrge2.out] at d2
      simp only [hFrg, d2]
      clear d2
      refine .inl ⟨rfl, ?_⟩
      unfold Reg.upon
      have hk := Hrgk.out 3 Lq wq (by decide)  hh.cls
      have hx := Hrgx.out wq
      have he : Erg 3 (.bool false) wq := by rw [Hrge3.out]
      have HK := Lib.hid (And.intro hk (And.intro he hx))
      clear hk hx he
      go_simp
      exact HK.out
    · intro Lq wq xq hh
      have d3 : Erg 3 (xq 3) wq := hh.val 3 (by kernel_rfl) (by kernel_rfl)
      rw [Hrge3.out] at d3
      simp only [hFrg, d3]
      clear d3
      refine .inl ⟨rfl, ?_⟩
      unfold Reg.upon
      have hk := Hrgk.out 4 Lq wq (by decide)  hh.cls
      have hx := Hrgx.out wq
      have he : Erg 4 (.bool false) wq := by rw [Hrge4.out]
      have HK := Lib.hid (And.intro hk (And.intro he hx))
      clear hk hx he
      go_simp
      exact HK.out
    · intro Lq wq xq hh
      have d4 : Erg 4 (xq 4) wq := hh.val 4 (by kernel_rfl) (by kernel_rfl)
      rw [Hrge4.out] at d4
      simp only [hFrg, d4]
      clear d4
      refine .inl ⟨rfl, ?_⟩
      unfold Reg.upon
      have hk := Hrgk.out 5 Lq wq (by decide)  hh.cls
      have hx := Hrgx.out wq
      have he : Erg 5 (.pointer (some ⟨gp, 0, none⟩)) wq := by rw [Hrge5.out]
      have HK := Lib.hid (And.intro hk (And.intro he hx))
      clear hk hx he
      go_simp
      exact HK.out
    · intro Lq wq xq hh
      have d4 : Erg 4 (xq 4) wq := hh.val 4 (by kernel_rfl) (by kernel_rfl)
      rw [Hrge4.out] at d4
      have d5 : Erg 5 (xq 5) wq := hh.val 5 (by kernel_rfl) (by kernel_rfl)
      rw [Hrge5.out] at d5
      simp only [hFrg, d4, d5]
      clear d4 d5
      refine .inl ⟨rfl, ?_⟩
      unfold Reg.upon
      have hk := Hrgk.out 6 Lq wq (by decide)  hh.cls
      have hx := Hrgx.out wq
      have he : Erg 6 (.pointer (some ⟨gp, 0, none⟩)) wq := by rw [Hrge6.out]
      have HK := Lib.hid (And.intro hk (And.intro he hx))
      clear hk hx he
      go_simp
      exact HK.out
    · intro Lq wq xq hh
      have d4 : Erg 4 (xq 4) wq := hh.val 4 (by kernel_rfl) (by kernel_rfl)
      rw [Hrge4.out] at d4
      have d6 : Erg 6 (xq 6) wq := hh.val 6 (by kernel_rfl) (by kernel_rfl)
      rw [Hrge6.out] at d6
      simp only [hFrg, d4, d6]
      clear d4 d6
      refine .inl ⟨rfl, ?_⟩
      unfold Reg.upon
      have hk := Hrgk.out 7 Lq wq (by decide)  hh.cls
      have hx := Hrgx.out wq
      have he : Erg 7 (.pointer (some ⟨gp, 1, none⟩)) wq := by rw [Hrge7.out]
      have HK := Lib.hid (And.intro hk (And.intro he hx))
      clear hk hx he
      go_simp
      exact HK.out
    · intro Lq wq xq hh
      have d4 : Erg 4 (xq 4) wq := hh.val 4 (by kernel_rfl) (by kernel_rfl)
      rw [Hrge4.out] at d4
      have d7 : Erg 7 (xq 7) wq := hh.val 7 (by kernel_rfl) (by kernel_rfl)
      rw [Hrge7.out] at d7
      simp only [hFrg, d4, d7]
      clear d4 d7
      refine .inl ⟨rfl, ?_⟩
      unfold Reg.upon
      have hk := Hrgk.out 8 Lq wq (by decide)  hh.cls
      have hx := Hrgx.out wq
      have he : Erg 8 (.pointer (some ⟨gp, 3, none⟩)) wq := by rw [Hrge8.out]
      have HK := Lib.hid (And.intro hk (And.intro he hx))
      clear hk hx he
      go_simp
      exact HK.out
    · intro Lq wq xq hh
      have d4 : Erg 4 (xq 4) wq := hh.val 4 (by kernel_rfl) (by kernel_rfl)
      rw [Hrge4.out] at d4
      have d8 : Erg 8 (xq 8) wq := hh.val 8 (by kernel_rfl) (by kernel_rfl)
      rw [Hrge8.out] at d8
      simp only [hFrg, d4, d8]
      clear d4 d8
      refine .inl ⟨rfl, ?_⟩
      unfold Reg.upon
      have hc : Crg Lq wq := hh.cls
      rw [HrghC.out] at hc
      obtain ⟨R2, hq⟩ := hc.2.2.1 (hh.isDone 2 (by kernel_rfl))
      have q3 := hq.1.cell 3 _ rfl
      clear hc
      have hk := Hrgk.out 9 Lq wq (by decide)  hh.cls
      have hx := Hrgx.out wq
      have he : Erg 9 (.bool false) wq := by rw [Hrge9.out]
      have HK := Lib.hid (And.intro hk (And.intro he hx))
      clear hk hx he
      go_simp
      exact HK.out
    · intro Lq wq xq hh
      have d4 : Erg 4 (xq 4) wq := hh.val 4 (by kernel_rfl) (by kernel_rfl)
      rw [Hrge4.out] at d4
      have d9 : Erg 9 (xq 9) wq := hh.val 9 (by kernel_rfl) (by kernel_rfl)
      rw [Hrge9.out] at d9
      simp only [hFrg, d4, d9]
      clear d4 d9
      refine .inl ⟨rfl, ?_⟩
      unfold Reg.upon
      have hk := Hrgk.out 10 Lq wq (by decide)  hh.cls
      have hx := Hrgx.out wq
      have he : Erg 10 (.bool false) wq := by rw [Hrge10.out]
      have HK := Lib.hid (And.intro hk (And.intro he hx))
      clear hk hx he
      go_simp
      exact HK.out
    · intro Lq wq xq hh
      have d10 : Erg 10 (xq 10) wq := hh.val 10 (by kernel_rfl) (by kernel_rfl)
      rw [Hrge10.out] at d10
      simp only [hFrg, d10]
      clear d10
      refine .inl ⟨rfl, ?_⟩
      unfold Reg.upon
      have hk := Hrgk.out 11 Lq wq (by decide)  hh.cls
      have hx := Hrgx.out wq
      have he : Erg 11 (.bool false) wq := by rw [Hrge11.out]
      have HK := Lib.hid (And.intro hk (And.intro he hx))
      clear hk hx he
      go_simp
      exact HK.out
    · intro Lq wq xq hh
      have d11 : Erg 11 (xq 11) wq := hh.val 11 (by kernel_rfl) (by kernel_rfl)
      rw [Hrge11.out] at d11
      simp only [hFrg, d11]
      clear d11
      refine .inl ⟨rfl, ?_⟩
      unfold Reg.upon
      have hk := Hrgk.out 12 Lq wq (by decide)  hh.cls
      have hx := Hrgx.out wq
      have he : Erg 12 (.pointer (some ⟨gp, 0, none⟩)) wq := by rw [Hrge12.out]
      have HK := Lib.hid (And.intro hk (And.intro he hx))
      clear hk hx he
      go_simp
      exact HK.out
    · intro Lq wq xq hh
      have d11 : Erg 11 (xq 11) wq := hh.val 11 (by kernel_rfl) (by kernel_rfl)
      rw [Hrge11.out] at d11
      have d12 : Erg 12 (xq 12) wq := hh.val 12 (by kernel_rfl) (by kernel_rfl)
      rw [Hrge12.out] at d12
      simp only [hFrg, d11, d12]
      clear d11 d12
      refine .inl ⟨rfl, ?_⟩
      unfold Reg.upon
      have hk := Hrgk.out 13 Lq wq (by decide)  hh.cls
      have hx := Hrgx.out wq
      have he : Erg 13 (.pointer (some ⟨gp, 0, none⟩)) wq := by rw [Hrge13.out]
      have HK := Lib.hid (And.intro hk (And.intro he hx))
      clear hk hx he
      go_simp
      exact HK.out
    · intro Lq wq xq hh
      have d11 : Erg 11 (xq 11) wq := hh.val 11 (by kernel_rfl) (by kernel_rfl)
      rw [Hrge11.out] at d11
      have d13 : Erg 13 (xq 13) wq := hh.val 13 (by kernel_rfl) (by kernel_rfl)
      rw [Hrge13.out] at d13
      simp only [hFrg, d11, d13]
      clear d11 d13
      refine .inl ⟨rfl, ?_⟩
      unfold Reg.upon
      have hk := Hrgk.out 14 Lq wq (by decide)  hh.cls
      have hx := Hrgx.out wq
      have he : Erg 14 (.pointer (some ⟨gp, 1, none⟩)) wq := by rw [Hrge14.out]
      have HK := Lib.hid (And.intro hk (And.intro he hx))
      clear hk hx he
      go_simp
      exact HK.out
    · intro Lq wq xq hh
      have d11 : Erg 11 (xq 11) wq := hh.val 11 (by kernel_rfl) (by kernel_rfl)
      rw [Hrge11.out] at d11
      have d14 : Erg 14 (xq 14) wq := hh.val 14 (by kernel_rfl) (by kernel_rfl)
      rw [Hrge14.out] at d14
      simp only [hFrg, d11, d14]
      clear d11 d14
      refine .inl ⟨rfl, ?_⟩
      unfold Reg.upon
      have hc : Crg Lq wq := hh.cls
      rw [HrghC.out] at hc
      obtain ⟨R2, hq⟩ := hc.2.2.1 (hh.isDone 2 (by kernel_rfl))
      have q1 := hq.1.cell 1 _ rfl
      have q2 := hq.1.cell 2 _ rfl
      have q3 := hq.1.cell 3 _ rfl
      clear hc
      have hk := Hrgk.out 15 Lq wq (by decide)  hh.cls
      have hx := Hrgx.out wq
      have he : Erg 15 (.agg #[.int .i64 rr, .int .i64 cc, .bool false]) wq := by rw [Hrge15.out]
      have HK := Lib.hid (And.intro hk (And.intro he hx))
      clear hk hx he
      go_simp
      exact HK.out
    · intro Lq wq xq hh
      have d11 : Erg 11 (xq 11) wq := hh.val 11 (by kernel_rfl) (by kernel_rfl)
      rw [Hrge11.out] at d11
      simp only [hFrg, d11]
      clear d11
      refine .inl ⟨rfl, ?_⟩
      unfold Reg.upon
      have hk := Hrgk.out 16 Lq wq (by decide)  hh.cls
      have hx := Hrgx.out wq
      have he : Erg 16 (.pointer (some ⟨gg, 0, none⟩)) wq := by rw [Hrge16.out]
      have HK := Lib.hid (And.intro hk (And.intro he hx))
      clear hk hx he
      go_simp
      exact HK.out
    · intro Lq wq xq hh
      have d11 : Erg 11 (xq 11) wq := hh.val 11 (by kernel_rfl) (by kernel_rfl)
      rw [Hrge11.out] at d11
      have d16 : Erg 16 (xq 16) wq := hh.val 16 (by kernel_rfl) (by kernel_rfl)
      rw [Hrge16.out] at d16
      simp only [hFrg, d11, d16]
      clear d11 d16
      refine .inl ⟨rfl, ?_⟩
      unfold Reg.upon
      have hc : Crg Lq wq := hh.cls
      rw [HrghC.out] at hc
      obtain ⟨R2, hq⟩ := hc.2.2.1 (hh.isDone 2 (by kernel_rfl))
      go_simp
      refine (gwide_any BP gg gr wd R2 wq hq.2.2.1).mono ?_
      rintro e w2 ⟨rfl, rfl⟩
      exact ⟨_, rfl, Hrgk.out 17 Lq wq (by decide)  hh.cls, (by rw [Hrge17.out]; try rfl), Hrgx.out _⟩
    · intro Lq wq xq hh
      have d11 : Erg 11 (xq 11) wq := hh.val 11 (by kernel_rfl) (by kernel_rfl)
      rw [Hrge11.out] at d11
      simp only [hFrg, d11]
      clear d11
      refine .inl ⟨rfl, ?_⟩
      unfold Reg.upon
      have hk := Hrgk.out 18 Lq wq (by decide)  hh.cls
      have hx := Hrgx.out wq
      have he : Erg 18 (.pointer (some ⟨gg, 0, none⟩)) wq := by rw [Hrge18.out]
      have HK := Lib.hid (And.intro hk (And.intro he hx))
      clear hk hx he
      go_simp
      exact HK.out
    · intro Lq wq xq hh
      have d11 : Erg 11 (xq 11) wq := hh.val 11 (by kernel_rfl) (by kernel_rfl)
      rw [Hrge11.out] at d11
      have d18 : Erg 18 (xq 18) wq := hh.val 18 (by kernel_rfl) (by kernel_rfl)
      rw [Hrge18.out] at d18
      simp only [hFrg, d11, d18]
      clear d11 d18
      refine .inl ⟨rfl, ?_⟩
      unfold Reg.upon
      have hc : Crg Lq wq := hh.cls
      rw [HrghC.out] at hc
      obtain ⟨R2, hq⟩ := hc.2.2.1 (hh.isDone 2 (by kernel_rfl))
      have h9 := ghigh_any BP gg gr wd R2 wq hq.2.2.1
      rw [hq.sizes.2.2.2.2.1, HLN.out] at h9
      go_simp
      refine (h9).mono ?_
      rintro e w2 ⟨rfl, rfl⟩
      exact ⟨_, rfl, Hrgk.out 19 Lq wq (by decide)  hh.cls, (by rw [Hrge19.out]; try rfl), Hrgx.out _⟩
    · intro Lq wq xq hh
      have d11 : Erg 11 (xq 11) wq := hh.val 11 (by kernel_rfl) (by kernel_rfl)
      rw [Hrge11.out] at d11
      have d15 : Erg 15 (xq 15) wq := hh.val 15 (by kernel_rfl) (by kernel_rfl)
      rw [Hrge15.out] at d15
      have d17 : Erg 17 (xq 17) wq := hh.val 17 (by kernel_rfl) (by kernel_rfl)
      rw [Hrge17.out] at d17
      have d19 : Erg 19 (xq 19) wq := hh.val 19 (by kernel_rfl) (by kernel_rfl)
      rw [Hrge19.out] at d19
      simp only [hFrg, d11, d15, d17, d19]
      clear d11 d15 d17 d19
      refine .inl ⟨rfl, ?_⟩
      unfold Reg.upon
      have hc : Crg Lq wq := hh.cls
      rw [HrghC.out] at hc
      have h9 := cright_any rr cc false wd n wq
      rw [HRT.out] at h9
      go_simp
      refine (h9).mono ?_
      rintro e w2 ⟨rfl, hb⟩
      exact ⟨_, rfl, Hrgk.out 20 Lq w2 (by decide)  (Hrgb.out Lq wq w2 hh.cls hb), (by rw [Hrge20.out]; try rfl), Hrgxb.out wq w2 hb⟩
    · intro Lq wq xq hh
      have d11 : Erg 11 (xq 11) wq := hh.val 11 (by kernel_rfl) (by kernel_rfl)
      rw [Hrge11.out] at d11
      have d20 : Erg 20 (xq 20) wq := hh.val 20 (by kernel_rfl) (by kernel_rfl)
      rw [Hrge20.out] at d20
      simp only [hFrg, d11, d20]
      clear d11 d20
      refine .inl ⟨rfl, ?_⟩
      unfold Reg.upon
      have hk := Hrgk.out 21 Lq wq (by decide)  hh.cls
      have hx := Hrgx.out wq
      have he : Erg 21 (.bool false) wq := by rw [Hrge21.out]
      have HK := Lib.hid (And.intro hk (And.intro he hx))
      clear hk hx he
      go_simp
      exact HK.out
    · intro Lq wq xq hh
      have d11 : Erg 11 (xq 11) wq := hh.val 11 (by kernel_rfl) (by kernel_rfl)
      rw [Hrge11.out] at d11
      have d21 : Erg 21 (xq 21) wq := hh.val 21 (by kernel_rfl) (by kernel_rfl)
      rw [Hrge21.out] at d21
      simp only [hFrg, d11, d21]
      clear d11 d21
      refine .inl ⟨rfl, ?_⟩
      unfold Reg.upon
      have hk := Hrgk.out 22 Lq wq (by decide)  hh.cls
      have hx := Hrgx.out wq
      have he : Erg 22 (.bool false) wq := by rw [Hrge22.out]
      have HK := Lib.hid (And.intro hk (And.intro he hx))
      clear hk hx he
      go_simp
      exact HK.out
  intro xq wrg hcrg hvrg
  rw [HrghC.out] at hcrg
  simp only [hFrg]
  have vrg22 : Erg 22 (xq 22) wrg := hvrg 22 (by decide)
  rw [Hrge22.out] at vrg22
  rw [vrg22]
  clear hvrg hFrg Hrgk Hrgx Hrgst Hrgc HrghC HrghX Hrgb Hrgxb Hrge0 Hrge1 Hrge2 Hrge3 Hrge4 Hrge5 Hrge6 Hrge7 Hrge8 Hrge9 Hrge10 Hrge11 Hrge12 Hrge13 Hrge14 Hrge15 Hrge16 Hrge17 Hrge18 Hrge19 Hrge20 Hrge21 Hrge22
  clear vrg22
  obtain ⟨hbw, _, hp5, hx5⟩ := hcrg
  obtain ⟨R5, hp5⟩ := hp5 (by kernel_rfl)
  have H5 := Lib.hid hp5
  have HX5 := Lib.hid hx5
  have B5 := Lib.hid hbw
  have y0 := hp5.1.cell 0 _ rfl
  have hgl := glines_any BP gg gr wd R5 wrg hp5.2.2.1
  rw [hp5.2.2.2] at hgl
  have HGL := Lib.hid hgl
  have HSD := Lib.hid (show ∀ i, i < n → soundB (LP.getD i zl).1 = true ∧ (LP.getD i zl).1.length = wd from fun i hi => by
    have hrl := H5.out.sizes.2.2.2.2.1
    have hr := H5.out.2.2.1.row (i := i) (by rw [hrl, HLN.out]; exact hi)
    have hw := H5.out.sizes.2.2.2.2.2 i (by rw [HLN.out]; exact hi)
    rw [← (row_line H5.out.2.2.2 i (by rw [hrl, HLN.out]; exact hi)).1] at hw ⊢
    exact ⟨hr.len.2.2, hw⟩)
  clear hbw hp5 hx5 hgl HPU HP4 HX4 HO4 B4
  go_wp2_with fail
  refine HGL.out.mono ?_
  rintro e w9 ⟨v9, rfl, ho9, b9⟩
  have hm9 := ho9.held (fun b hb _ => hb)
  obtain ⟨o9, k9, ev9⟩ := hm9.len
  subst ev9
  have HM9 := Lib.hid hm9
  have HX9 := Lib.hid (HX5.out.below b9 HX5.out.lt)
  have B9 := Lib.hid (B5.out.trans (b9.mono B5.out.size))
  rw [HLN.out] at HM9 ⊢
  have hcap9 : n ≤ k9 := by have := (lines_at HM9.out).2.1; exact this
  have HCL := Lib.hid (show ∀ i, i < n → ∃ b off cv, o9 = some ⟨b, off, none⟩ ∧ b < w9.heap.size ∧ w9.cell? ⟨b, off + i * 2, none⟩ = some cv ∧ HeldE cellE _ w9 cv (LP.getD i zl).1 from fun i hi => by
    obtain ⟨b, off, cv, e1, e2, _, e4, _, e6⟩ := (lines_at HM9.out).2.2 i (by rw [HLN.out]; exact hi)
    exact ⟨b, off, cv, e1, e2, e4, e6⟩)
  have HCQ := Lib.hid hcap9
  clear ho9 hm9 b9 y0 HGL H5 hcap9
  go_wp2
  go_loopw [11] (fun iv wr => ∃ i : Nat, i ≤ n ∧ iv = .int .i64 i ∧ Below w9.heap.size w9 wr) (fun iv _ => n - (intOf iv).toNat)
  case atStart => exact ⟨0, Nat.zero_le _, rfl, Below.refl _ _⟩
  case round =>
    obtain ⟨i, hi, rfl, hbi⟩ := hrel
    obtain ⟨wi, hwi⟩ : ∃ wi, wi = wr := ⟨_, rfl⟩
    subst hwi
    have HBI := Lib.hid hbi
    clear hbi
    by_cases hlt : i < n
    · have j1 : decide ((i : Int) < (n : Int)) = true := by rw [decide_eq_true_eq]; omega
      have j2 : decide (i < n) = true := by rw [decide_eq_true_eq]; omega
      have hii : (i : Int) < (n : Int) := by omega
      have h0n : (0 : Int) < (n : Int) := by omega
      have hik : i < k9 := by have := HCQ.out; omega
      have hwj : IntKind.i64.wrap ((i : Int) + 1) = (i : Int) + 1 := by rw [IntKind.wrap_i64]; omega
      obtain ⟨b, off, cv, rfl, hbb, z0, hcv⟩ := HCL.out i hlt
      obtain ⟨ao', ca', e'⟩ := hcv.len
      rw [(HSD.out i hlt).2] at e'
      subst e'
      have hcvi := hcv.below HBI.out
      have e0 := ext_cell ((HBI.out.cell (p := ⟨b, off + i * 2, none⟩) hbb).trans z0)
      have HSO := Lib.hid (show ∀ u : Growth wi, Calls Tryd.prog 21 #[.slice ao' wd ca'] (ext wi u) (Gives (ext wi u) (.bool true)) from fun u => by
        have h := rsound_any _ _ _ (ext wi u) (hcvi.below u.ok)
        rw [← sound_iff, (HSD.out i hlt).1] at h
        exact h)
      have HXI := Lib.hid (HX9.out.below HBI.out HX9.out.lt)
      have e1 := ext_cell (HXI.out.cell 0 _ rfl)
      obtain ⟨cA, hcA, hclA⟩ := HCA.out wi (B9.out.trans (HBI.out.mono B9.out.size))
      obtain ⟨o1, k1, eA1⟩ := hclA.len
      rw [HWD.out] at eA1
      subst eA1
      have e2 := ext_cell hcA
      rw [show oA + 0 * 2 = oA from by omega] at e2
      have hca : 0 < ca := by have := HCP.out; omega
      clear z0 hcv hbb hcvi hcA hclA
      go_wp2_with fail
      refine wp_region_ext (by kernel_rfl) (by kernel_rfl) ?_
      repeat (go_big_quiet_step ((go_at_call 21; exact callx (HSO.out _))))
      refine wpQuiet_nil ?_
      intro _ hw'
      obtain ⟨u, hw''⟩ := hw'
      subst hw''
      have HZ := Lib.hid (HBI.out.trans (u.ok.mono HBI.out.size))
      clear e0 e1 e2
      go_wp2
      go_roundw
      case rel => exact ⟨i + 1, by omega, by go_num, HZ.out⟩
      case measure => simp [intOf] <;> omega
    · obtain rfl : i = n := by omega
      have j1 : decide ((i : Int) < (i : Int)) = false := by rw [decide_eq_false_iff_not]; omega
      have hxi := HX9.out.below HBI.out HX9.out.lt
      have x0 := hxi.cell 0 _ rfl
      have HF := Lib.hid (B9.out.trans (HBI.out.mono B9.out.size))
      clear hxi
      go_wp2
      go_ret
      exact ⟨(ret_eq (by first | rfl | (simp <;> omega))), HF.out⟩
set_option maxRecDepth 100000 in
theorem walk {H : Type} {enc : TypeId × Value → H} (W : World) (u : Value) {base : Nat} {d : DataW H} {p : List MemPlace} (hv : Value.okWide Tryd.prog W .any base 26 u) (h : DataW.Trod enc Tryd.prog W 0 (fun _ => true) true 26 u d p) (v : Value) {base' : Nat} {d' : DataW H} {p' : List MemPlace} (hv' : Value.okWide Tryd.prog W .any base' 47 v) (h' : DataW.Trod enc Tryd.prog W 0 (fun _ => true) true 47 v d' p') (hL : laidMetH Tryd.prog Rows.editSoundRow.laid W) : Calls Tryd.prog 4 #[u, v] W (Yes W) := by
  have hE := opens_triple (P := Tryd.prog) Tryd.underlying26 (by kernel_rfl) rfl rfl rfl (opens_slice Tryd.underlying22 (by kernel_rfl) (by decide) (opens_pair Tryd.underlying56 (by kernel_rfl) rfl rfl (opens_slice Tryd.underlying54 (by kernel_rfl) (by decide) (opens_pair Tryd.underlying73 (by kernel_rfl) rfl rfl (opens_int (k := .i64) Tryd.underlying3 (by kernel_rfl)) (opens_slice Tryd.underlying58 (by kernel_rfl) (by decide) (opens_int (k := .i32) Tryd.underlying21 (by kernel_rfl))))) (opens_bool Tryd.underlying4 (by kernel_rfl)))) (opens_triple Tryd.underlying24 (by kernel_rfl) rfl rfl rfl (opens_int (k := .i64) Tryd.underlying3 (by kernel_rfl)) (opens_int (k := .i64) Tryd.underlying3 (by kernel_rfl)) (opens_bool Tryd.underlying4 (by kernel_rfl))) (opens_bool Tryd.underlying4 (by kernel_rfl))
  obtain ⟨cs, ⟨Ls, ⟨P, Q, S⟩, au⟩, rfl, ⟨C1, C2, hcs, ⟨tv, rfl, ht⟩, C3, C4, rfl, ⟨C5, C6, rfl, rfl, C7, C8, rfl, rfl, rfl⟩, rfl⟩, _⟩ := opens_struct Tryd.underlying26 hE hv h
  obtain rfl : cs = #[tv, .int .i64 P, .int .i64 Q, .bool S, .bool au] := by
    apply Array.toList_inj.1
    rw [hcs]
    rfl
  have hE2 := opens_four (P := Tryd.prog) Tryd.underlying47 (by kernel_rfl) rfl rfl rfl rfl (opens_int (k := .i64) Tryd.underlying3 (by kernel_rfl)) (opens_int (k := .i64) Tryd.underlying3 (by kernel_rfl)) (opens_int (k := .i64) Tryd.underlying3 (by kernel_rfl)) (opens_slice Tryd.underlying45 (by kernel_rfl) (by decide) (opens_int (k := .u8) Tryd.underlying5 (by kernel_rfl)))
  obtain ⟨cs2, ⟨K, A, C, T⟩, rfl, ⟨D1, D2, hcs2, rfl, D3, D4, rfl, rfl, D5, D6, rfl, rfl, ⟨tb, rfl, htb⟩⟩, _⟩ := opens_struct Tryd.underlying47 hE2 hv' h'
  obtain ⟨bo, bk, rfl⟩ := htb.len
  obtain rfl : cs2 = #[.int .i64 K, .int .i64 A, .int .i64 C, .slice bo T.length bk] := by
    apply Array.toList_inj.1
    rw [hcs2]
    rfl
  obtain ⟨sa, hsa⟩ := sents_of_row hL
  exact walkH W tv Ls P Q S au K A C bo T.length bk _ ht sa hsa

theorem door_met (os : Os) : laidMetH Tryd.prog Rows.editSoundRow.laid ((World.doorLaid Tryd.prog 400 os).forCall (fun _ _ => 0) ⟨#[], #[.agg #[.slice none 0 0, .int .i64 0, .int .i64 0, .bool false, .bool false], .agg #[.int .i64 0, .int .i64 0, .int .i64 0, .slice none 0 0]], []⟩).memory :=
  laidMetH_of_parts3 (fuel := 8) (laidMet_of_run' 8 (by kernel_rfl) (by kernel_rfl)) (by kernel_rfl) (by kernel_rfl)

set_option maxRecDepth 100000 in
theorem lifted (os : Os) (started : os.Started) (H : Type) (enc : TypeId × Value → H) :
    ReturnsInHanded {} Tryd.checked os 4 .any (fun w args => (Rows.editSoundSpec.pre enc Tryd.prog Tryd.f4 [] false w args ∧ laidMetH Tryd.prog Rows.editSoundRow.laid w) ∧ sizedMet enc Tryd.prog Tryd.f4 (OpenSpec.ofChange Rows.editSoundSpec) false w args)
      (Rows.editSoundSpec.post enc Tryd.prog Tryd.f4 false true false false) := by
  refine law_frame (C := Tryd.checked) (tb := 4) (by kernel_rfl) started (by kernel_rfl) Tryd.func4 (by kernel_rfl) (by kernel_rfl) Tryd.underlying4 rfl
    (by rw [Tryd.params4]; intro t ht; simp at ht; rcases ht with rfl | rfl <;> exact ⟨by kernel_rfl, of_decide_eq_true (by kernel_rfl)⟩)
    (by rw [Tryd.params4]; intro ds hd; match ds, hd with | [_, _], _ => rfl)
    (ChangeSpec.witness_shaped (enc := enc) (C := Tryd.checked) (os := os) (X := fun w _ => laidMetH Tryd.prog Rows.editSoundRow.laid w) false (World.doorLaid Tryd.prog 400 os) #[.agg #[.slice none 0 0, .int .i64 0, .int .i64 0, .bool false, .bool false], .agg #[.int .i64 0, .int .i64 0, .int .i64 0, .slice none 0 0]] 8 rfl (World.shaped_of_RefB (by kernel_rfl) (by kernel_rfl)) (by kernel_rfl) (by kernel_rfl) (by kernel_rfl) (door_met os)) ?_
  intro W base args ds before hval hA hsz hL
  rw [Tryd.params4] at hA hval
  obtain ⟨v0, vs0, d0, ds0, p0, q0, hargs, rfl, rfl, h0, r0⟩ := trodAll_cons hA
  obtain ⟨v1, vs1, d1, ds1, p1, q1, rfl, rfl, rfl, h1, r1⟩ := trodAll_cons r0
  obtain ⟨rfl, rfl, rfl⟩ := trodAll_nil r1
  obtain rfl : args = #[v0, v1] := by cases args; simp_all

  exact walk W v0 (hval 0 26 v0 rfl rfl) h0 v1 (hval 1 47 v1 rfl rfl) h1 hL

theorem said : Rows.EditSoundSaid :=
  OpenClaim.holds_of_wide 4 Tryd.f4 rfl rfl rfl rfl rfl rfl rfl ⟨rfl, rfl, rfl, rfl, rfl⟩ rfl rfl rfl rfl rfl (by kernel_rfl) Tryd.func4 (by kernel_rfl)
    (of_decide_eq_true (by kernel_rfl)) (by unfold Func.isWrapper; first | (rw [if_pos (by decide +kernel)]; kernel_rfl) | (rw [if_neg (by decide +kernel)]; exact ⟨rfl, rfl⟩))
    (fun os started H enc _ => lifted os started H enc)

theorem plain (f : FuncId) (fn : Func) (hf : Tryd.pinned.checked.prog.funcNamed "linotype/linotypelaw38.EditSound" = some f) (hfn : Tryd.pinned.checked.prog.funcs[f]? = some fn) :
    true = Tryd.pinned.checked.prog.looks [] ∧ ∀ (j : Nat) t, fn.params[j]? = some t → Tryd.pinned.checked.prog.wantsStandIn t = false := by
  obtain rfl : f = 4 := Option.some.inj ((show Tryd.prog.funcNamed "linotype/linotypelaw38.EditSound" = some 4 by kernel_rfl).symm.trans hf) |>.symm
  obtain rfl : fn = Tryd.f4 := (Option.some.inj (Tryd.func4.symm.trans hfn)).symm
  refine ⟨by kernel_rfl, fun j t ht => ?_⟩
  rw [Tryd.params4] at ht
  have hm : t ∈ [26, 47] := by simpa using Array.mem_of_getElem? ht
  have hall : ([26, 47].all fun u => !Tryd.prog.wantsStandIn u) = true := by kernel_rfl
  exact (show Tryd.prog.wantsStandIn t = false by simpa using List.all_eq_true.1 hall t hm)

/-- THE CARD. -/
theorem card : Rows.EditSoundCardSaid :=
  Claim7.holds_tied_plain_at .later [] _ _ _ _ said (fun _ h => by cases h) (by kernel_rfl) (fun _ h => by cases h) editSound_row_tie rfl ⟨rfl, rfl⟩ (by kernel_rfl) rfl plain (by kernel_rfl)
#print axioms card

end Go.Proofs.YtgndolgihplngaaDoor.lawEditSound
