/- SizeKeeps (39.2) answers true at all lines, cursors and sizes, and turns nothing. No condition. -/
import Derived.Test.YteinppjklhomnaaDoorSizB
import Derived.Test.YteinppjklhomnaaDoorMg6
import Derived.Test.YteinppjklhomnaaDoorMg1
import Derived.Test.YteinppjklhomnaaDoorCellU
import Derived.Test.YteinppjklhomnaaDoorCellS
import Derived.Test.YteinppjklhomnaaDoorCards
import Derived.Test.YteinppjklhomnaaDoorTie
import Derived.ProofKit
import Derived.Lib.MinMax
namespace Go.Proofs.YteinppjklhomnaaDoor.lawSizeKeeps
open Go.ChangeShapes Go.WideShapes Go.ChangeAt Go.RowKit
theorem in_nat9 (r : Int) {n : Nat} (h : 0 < n) (hn : n ≤ 1024) : ∃ r2 : Nat, inI r (sideI n) = (r2 : Int) ∧ r2 < n := by
  have hs : sideI n = (n : Int) := by unfold sideI; omega
  rw [hs]
  refine ⟨(inI r n).toNat, ?_, ?_⟩ <;> unfold inI <;> (repeat' split) <;> omega
theorem rsz_head {L : List Cl} (hs : soundB L = true) {n : Nat} (h : L.length ≤ n) : (rszL L n).take L.length = L := by
  unfold rszL
  split
  · rw [List.take_left' rfl]
  · rename_i hn
    have e : L.take n = L := List.take_of_length_le (by omega)
    rw [e, fix_none hs, List.take_of_length_le (Nat.le_refl _)]
theorem szL_at (Ls : List Ln) (nw nh top k i : Nat) (h : i < nh) : (szL Ls nw nh top k).getD i zl = if i < k then szF Ls nw top i else (List.replicate nw zc, false) := by
  unfold szL fillL
  simp [List.getD, List.getElem?_map, List.getElem?_range h]
set_option maxRecDepth 100000 in
set_option maxHeartbeats 16000000 in
theorem walkH (W : World) (va : Value) (Ls : List Ln) (P Q : Int) (S au : Bool) (a b : Int) (Z : Zone) (ha : HeldE lineE Z W va Ls) : Calls Tryd.prog 8 #[.agg #[va, .int .i64 P, .int .i64 Q, .bool S, .bool au], .int .i64 a, .int .i64 b] W (Yes W) := by
  have hla := ha.max
  have ha := ha.lower
  obtain ⟨ao, ca, rfl⟩ := ha.len
  obtain ⟨n, hn⟩ : ∃ n, n = Ls.length := ⟨_, rfl⟩
  have HN := Lib.hid hn
  rw [← hn] at ha hla ⊢
  have HA := Lib.hid ha
  obtain ⟨y, hy⟩ : ∃ y, y = IntKind.u64.wrap a := ⟨_, rfl⟩
  have hy0 : 0 ≤ y ∧ y ≤ 18446744073709551615 := by rw [hy, IntKind.wrap_u64]; omega
  obtain ⟨c, hc⟩ : ∃ c : Nat, y % 10 = (c : Int) := ⟨(y % 10).toNat, by omega⟩
  have hc9 : c < 10 := by omega
  have hy' : IntKind.u64.wrap a = y := hy.symm
  have hct : y.tmod 10 = (c : Int) := by rw [Int.tmod_eq_emod_of_nonneg hy0.1]; exact hc
  have hwc : IntKind.i64.wrap (c : Int) = (c : Int) := by rw [IntKind.wrap_i64]; omega
  have HC9 := Lib.hid hc9
  clear hy hy0 hc hc9
  obtain ⟨y2, hy⟩ : ∃ y2, y2 = IntKind.u64.wrap b := ⟨_, rfl⟩
  have hy0 : 0 ≤ y2 ∧ y2 ≤ 18446744073709551615 := by rw [hy, IntKind.wrap_u64]; omega
  obtain ⟨d, hc⟩ : ∃ d : Nat, y2 % 10 = (d : Int) := ⟨(y2 % 10).toNat, by omega⟩
  have hc9 : d < 10 := by omega
  have hy2' : IntKind.u64.wrap b = y2 := hy.symm
  have hct2 : y2.tmod 10 = (d : Int) := by rw [Int.tmod_eq_emod_of_nonneg hy0.1]; exact hc
  have hwc2 : IntKind.i64.wrap (d : Int) = (d : Int) := by rw [IntKind.wrap_i64]; omega
  have HD9 := Lib.hid hc9
  clear hy hy0 hc hc9
  have HWR := Lib.hid (show ∀ w', Below W.heap.size W w' → Calls Tryd.prog 18 #[.slice ao n ca] w' (WrongTold w' Ls) from fun w' h => rlwrong_any _ _ Ls w' (HA.out.below h))
  have hb0 := (Below.refl W.heap.size W).alloc (Nat.le_refl _) (.cells [Value.slice ao n ca, .int .i64 P, .int .i64 Q, .bool S, .bool au].toArray 71)
  have hn0 := Has.new W [Value.slice ao n ca, .int .i64 P, .int .i64 Q, .bool S, .bool au] 71
  obtain ⟨W0, hW0⟩ : ∃ W0, W0 = W.alloc (.cells [Value.slice ao n ca, .int .i64 P, .int .i64 Q, .bool S, .bool au].toArray 71) := ⟨_, rfl⟩
  rw [← hW0] at hb0 hn0
  have hW0' : W0 = W.alloc (.cells #[Value.slice ao n ca, .int .i64 P, .int .i64 Q, .bool S, .bool au] 71) := hW0
  obtain ⟨gx, hgx⟩ : ∃ gx, gx = W.heap.size := ⟨_, rfl⟩
  have HGX := Lib.hid hgx
  rw [← hgx] at hn0
  have HB0 := Lib.hid hb0
  have HX0 := Lib.hid hn0
  clear ha hn hb0 hn0 hW0 hgx
  go_enter Tryd.func8, Tryd.ntmps8
  go_upto_region 1 with (fail)
  rw [← hW0', ← HGX.out]
  clear hW0'
  have x0 := HX0.out.cell 0 _ rfl
  go_wp2_with fail
  refine (HWR.out W0 HB0.out).mono ?_
  rintro e w0 hq
  obtain ⟨at_, acc, rfl, hat, b0⟩ := hq.say
  clear hq
  have HA0 := Lib.hid hat
  have B2 := Lib.hid (HB0.out.trans (b0.mono HB0.out.size))
  have HX1 := Lib.hid (HX0.out.below b0 HX0.out.lt)
  clear b0 hat x0 HX0
  go_wp2_with fail
  refine (works39_any _).mono ?_
  rintro e w2 ⟨rfl, b2⟩
  have B3 := Lib.hid (B2.out.trans (b2.mono B2.out.size))
  have HX2 := Lib.hid (HX1.out.below b2 HX1.out.lt)
  have d1 := HX2.out.cell 0 _ rfl
  clear b2 HX1 B2
  by_cases h1 : 20 < n
  · have hd : decide ((20 : Int) < n) = true := by rw [decide_eq_true_eq]; omega
    have hdn : decide (20 < n) = true := by rw [decide_eq_true_eq]; omega
    go_wp2_with fail
    refine (works39_any _).mono ?_
    rintro e w3 ⟨rfl, b3⟩
    have BB := B3.out.trans (b3.mono B3.out.size)
    go_wp2
    go_ret
    exact ⟨(ret_eq (by first | rfl | (simp <;> omega))), BB⟩

  have hd20 : decide ((20 : Int) < n) = false := by rw [decide_eq_false_iff_not]; omega
  have hd20n : decide (20 < n) = false := by rw [decide_eq_false_iff_not]; omega
  by_cases h0 : n = 0
  · have hz : ((n : Int) == 0) = true := by rw [beq_iff_eq]; omega
    clear h0 h1
    go_wp2_with fail
    refine (works39_any _).mono ?_
    rintro e w3 ⟨rfl, b3⟩
    have BB := B3.out.trans (b3.mono B3.out.size)
    go_wp2
    go_ret
    exact ⟨(ret_eq (by first | rfl | (simp <;> omega))), BB⟩

  have hz : ((n : Int) == 0) = false := by rw [beq_eq_false_iff_ne]; omega
  by_cases hall : AllGood Ls
  rotate_left
  · have hge : decide ((0 : Int) ≤ at_) = true := by rw [decide_eq_true_eq]; rcases HA0.out with h | h; exact absurd h.1 hall; exact h.1
    go_wp2_with fail
    refine (works39_any _).mono ?_
    rintro e w3 ⟨rfl, b3⟩
    have BB := B3.out.trans (b3.mono B3.out.size)
    go_wp2
    go_ret
    exact ⟨(ret_eq (by first | rfl | (simp <;> omega))), BB⟩

  obtain rfl : at_ = -1 := by rcases HA0.out with h | h; exact h.2; exact absurd hall h.2
  have HALL := Lib.hid hall
  have hg := gof_good _ _ Ls w2 HALL.out (HA.out.below B3.out) (by rw [← HN.out]; omega) (by rw [← HN.out]; omega)
  have HG := Lib.hid hg
  obtain ⟨bA, oA, _, eA, _⟩ := (lines_at HA.out).2.2 0 (by rw [← HN.out]; omega)
  subst eA
  have HCA := Lib.hid (show ∀ w', Below W.heap.size W w' → ∀ i, i < n → ∃ cv, w'.cell? ⟨bA, oA + i * 2, none⟩ = some cv ∧ HeldE cellE _ w' cv (Ls.getD i zl).1 from fun w' hb i hi => by
    obtain ⟨b, off, cv, e1, _, _, e4, _, e6⟩ := (lines_at (HA.out.below hb)).2.2 i (by rw [← HN.out]; exact hi)
    cases e1
    exact ⟨cv, e4, e6⟩)
  have HCP := Lib.hid (show n ≤ ca from (lines_at HA.out).2.1)
  clear hall hg HA0 HWR
  go_wp2_with fail
  refine HG.out.mono ?_
  rintro e w3 ⟨gg, gr, Rs, rfl, hg3, hm3, b3⟩
  have hb4 := (Below.refl w3.heap.size w3).alloc (Nat.le_refl _) (.cells [Value.pointer (some ⟨gg, 0, none⟩), .int .i64 P, .int .i64 Q, .bool S, .bool au].toArray 42)
  have hn4 := Has.new w3 [Value.pointer (some ⟨gg, 0, none⟩), .int .i64 P, .int .i64 Q, .bool S, .bool au] 42
  obtain ⟨W4, hW4⟩ : ∃ W4, W4 = w3.alloc (.cells [Value.pointer (some ⟨gg, 0, none⟩), .int .i64 P, .int .i64 Q, .bool S, .bool au].toArray 42) := ⟨_, rfl⟩
  rw [← hW4] at hb4 hn4
  obtain ⟨gp, hgp⟩ : ∃ gp, gp = w3.heap.size := ⟨_, rfl⟩
  rw [← hgp] at hn4
  obtain ⟨wd, hwd⟩ : ∃ wd, wd = firstN Ls := ⟨_, rfl⟩
  have HWD := Lib.hid hwd
  rw [← hwd] at hg3
  obtain ⟨BP, hBP⟩ : ∃ BP, BP = w2.heap.size := ⟨_, rfl⟩
  have hpa : PenAt W4 BP gp gg gr wd Rs Ls P Q S au := ⟨hn4, by rw [hBP, hgp]; exact b3.size, by rw [hBP]; exact hg3.below hb4, hm3⟩
  have HW4 := Lib.hid (show W4 = w3.alloc (.cells #[Value.pointer (some ⟨gg, 0, none⟩), .int .i64 P, .int .i64 Q, .bool S, .bool au] 42) from hW4)
  have HGP := Lib.hid hgp
  have HP4 := Lib.hid hpa
  have HBP := Lib.hid (show W.heap.size ≤ BP from by rw [hBP]; exact B3.out.size)
  have HX4 := Lib.hid ((HX2.out.below b3 HX2.out.lt).below hb4 (Nat.lt_of_lt_of_le HX2.out.lt b3.size))
  have B4 := Lib.hid ((B3.out.trans (b3.mono B3.out.size)).trans (hb4.mono (Nat.le_trans B3.out.size b3.size)))
  have h73 := HX2.out.below b3 HX2.out.lt
  have z1 := h73.cell 1 _ rfl
  have z2 := h73.cell 2 _ rfl
  have z3 := h73.cell 3 _ rfl
  have z4 := h73.cell 4 _ rfl
  have hs := hpa.sizes
  have hn20 : n ≤ 20 := by omega
  have hwd4 : 0 < wd ∧ wd ≤ 1024 := ⟨hs.2.2.1, hs.2.2.2.1⟩
  have HSD := Lib.hid (show ∀ i, i < n → soundB (Ls.getD i zl).1 = true ∧ (Ls.getD i zl).1.length = wd from fun i hi => by
    have hr := hpa.2.2.1.row (i := i) (by rw [hs.2.2.2.2.1, ← HN.out]; exact hi)
    rw [← (row_line hpa.2.2.2 i (by rw [hs.2.2.2.2.1, ← HN.out]; exact hi)).1]
    exact ⟨hr.len.2.2, by rw [(row_line hpa.2.2.2 i (by rw [hs.2.2.2.2.1, ← HN.out]; exact hi)).1]; exact hs.2.2.2.2.2 i (by rw [← HN.out]; exact hi)⟩)
  obtain ⟨r2, hr2, hlr⟩ := in_nat9 P hs.1 hs.2.1
  obtain ⟨c2, hc2, hlc⟩ := in_nat9 Q hs.2.2.1 hs.2.2.2.1
  obtain ⟨q1, hq1⟩ : ∃ q1 : Nat, q1 = wd + c := ⟨_, rfl⟩
  obtain ⟨q2, hq2⟩ : ∃ q2 : Nat, q2 = n + d := ⟨_, rfl⟩
  have hw1 : IntKind.i64.wrap ((wd : Int) + (c : Int)) = (q1 : Int) := by rw [IntKind.wrap_i64]; have := HC9.out; omega
  have hw2 : IntKind.i64.wrap ((n : Int) + (d : Int)) = (q2 : Int) := by rw [IntKind.wrap_i64]; have := HD9.out; omega
  obtain ⟨nw, hnw⟩ : ∃ nw, rowN (q1 : Int) = nw := ⟨_, rfl⟩
  obtain ⟨nh, hnh⟩ : ∃ nh, rowN (q2 : Int) = nh := ⟨_, rfl⟩
  have HNW := Lib.hid (show wd ≤ nw ∧ nw ≤ 1024 from by rw [← hnw]; unfold rowN; omega)
  have HNH := Lib.hid (show n ≤ nh ∧ nh ≤ 1024 from by rw [← hnh]; unfold rowN; omega)
  have hpu := psize_any BP gp gg gr wd Rs Ls P Q S au q1 q2 W4 hpa (Nat.le_trans hpa.2.1 (Nat.le_of_lt hpa.lt)) r2 c2 hr2 hc2 hlr hlc nw nh hnw hnh
  rw [← HN.out] at hpu hlr
  rw [show r2 + 1 - nh = 0 from by have := HNH.out; omega, show min nh (n - 0) = n from by have := HNH.out; omega] at hpu
  have HPU := Lib.hid hpu
  clear hpu hr2 hc2 hlr hlc hq1 hq2 hnw hnh hs hpa hW4 hgp hwd hBP hb4 hn4 hg3 hm3 b3 h73 HG
  go_upto_region 8 with (fail)
  rw [← HW4.out, ← HGP.out]
  clear z1 z2 z3 z4 d1
  have y0 := HX4.out.cell 0 _ rfl
  obtain ⟨cv, hcv, hcl⟩ := HCA.out W4 B4.out 0 (by omega)
  obtain ⟨o1, k1, e1⟩ := hcl.len
  rw [(HSD.out 0 (by omega)).2] at e1
  subst e1
  rw [show oA + 0 * 2 = oA from by omega] at hcv
  have hcp := HCP.out
  have h0n : (0 : Int) < (n : Int) := by omega
  have h0m : 0 < n := by omega
  have h0c : 0 < ca := by omega
  clear hcl
  go_wp2_with fail
  refine HPU.out.mono ?_
  rintro e w5 ⟨rfl, g2, gr2, R2, h5, u5⟩
  have HX5 := Lib.hid (u5.keep.has HX4.out (fun e => by
    rcases e with e | e
    · subst e; exact other_type HX4.out HP4.out.1 (by decide)
    · have := HX4.out.lt; omega))
  have B5 := Lib.hid (B4.out.trans (u5.below B4.out.size (fun x e => by
    rcases e with e | e
    · rw [e]; exact Nat.le_trans HBP.out HP4.out.2.1
    · exact Nat.le_trans B4.out.size e)))
  have H5 := Lib.hid h5
  have z0 := h5.1.cell 0 _ rfl
  have hgl := glines_any BP g2 gr2 nw R2 w5 h5.2.2.1
  rw [h5.2.2.2] at hgl
  clear h5 u5 y0 hcv hcp h0n h0m h0c HX4 B4
  go_wp2_with fail
  refine hgl.mono ?_
  rintro e w9 ⟨v9, rfl, ho9, b9⟩
  have hm9 := ho9.held (fun b hb _ => hb)
  obtain ⟨o9, k9, ev9⟩ := hm9.len
  have hl9 : (szL Ls nw nh 0 n).length = nh := by unfold szL; rw [fill_len]
  rw [hl9] at ev9
  subst ev9
  have HM9 := Lib.hid hm9
  have HL9 := Lib.hid hl9
  have HX9 := Lib.hid (HX5.out.below b9 HX5.out.lt)
  have B9 := Lib.hid (B5.out.trans (b9.mono B5.out.size))
  have hcap9 : nh ≤ k9 := (lines_at HM9.out).2.1
  have HCL := Lib.hid (show ∀ w', Below w9.heap.size w9 w' → ∀ i, i < nh → ∃ b off cv, o9 = some ⟨b, off, none⟩ ∧ b < w'.heap.size ∧ w'.cell? ⟨b, off + i * 2, none⟩ = some cv ∧ w'.cell? ⟨b, off + i * 2 + 1, none⟩ = some (.bool false) ∧ HeldE cellE _ w' cv ((szL Ls nw nh 0 n).getD i zl).1 from fun w' hb i hi => by
    obtain ⟨b, off, cv, e1, e2, _, e4, e5, e6⟩ := (lines_at (hm9.lower.below hb)).2.2 i (by rw [HL9.out]; exact hi)
    refine ⟨b, off, cv, e1, e2, e4, ?_, e6⟩
    rw [e5, szL_at _ _ _ _ _ _ hi]
    split <;> rfl)
  clear hgl ho9 hm9 b9 HX5 B5 hl9 z0
  have HCM := Lib.hid hcap9
  have hnn : decide ((n : Int) ≤ (nh : Int)) = true := by rw [decide_eq_true_eq]; have := HNH.out; omega
  have hnn2 : decide (n ≤ nh) = true := by rw [decide_eq_true_eq]; have := HNH.out; omega
  go_wp2
  go_loopw [14] (fun iv wr => ∃ i : Nat, i ≤ nh ∧ iv = .int .i64 i ∧ Below w9.heap.size w9 wr) (fun iv _ => nh - (intOf iv).toNat)
  case atStart => exact ⟨0, Nat.zero_le _, rfl, Below.refl _ _⟩
  case round =>
    obtain ⟨i, hi, rfl, hbi⟩ := hrel
    obtain ⟨wi, hwi⟩ : ∃ wi, wi = wr := ⟨_, rfl⟩
    subst hwi
    have HBI := Lib.hid hbi
    have hxi := HX9.out.below hbi HX9.out.lt
    have x0 := hxi.cell 0 _ rfl
    clear hbi
    by_cases hlt : i < nh
    · have j1 : decide ((i : Int) < (nh : Int)) = true := by rw [decide_eq_true_eq]; omega
      have j2 : decide (i < nh) = true := by rw [decide_eq_true_eq]; omega
      have hii : (i : Int) < (nh : Int) := by omega
      have hik : i < k9 := by omega
      have hwj : IntKind.i64.wrap ((i : Int) + 1) = (i : Int) + 1 := by rw [IntKind.wrap_i64]; have := HNH.out; omega
      obtain ⟨b9, off9, cv, rfl, hbb, z0, z1, hcv⟩ := HCL.out wi HBI.out i hlt
      have e0 := ext_cell z0
      have e1 := ext_cell z1
      have e2 := ext_cell x0
      by_cases hin : i < n
      · have l1 : decide ((i : Int) < (n : Int)) = true := by rw [decide_eq_true_eq]; omega
        have l2 : decide (i < n) = true := by rw [decide_eq_true_eq]; omega
        have hin2 : (i : Int) < (n : Int) := by omega
        have hic : i < ca := by have := HCP.out; omega
        obtain ⟨cva, z2, hca⟩ := HCA.out wi (B9.out.trans (HBI.out.mono B9.out.size)) i hin
        have e3 := ext_cell z2
        obtain ⟨ua, ka, ea⟩ := hca.len
        rw [(HSD.out i hin).2] at ea
        subst ea
        have hln : ((szL Ls nw nh 0 n).getD i zl).1 = rszL (Ls.getD i zl).1 nw := by
          rw [szL_at _ _ _ _ _ _ hlt, if_pos hin]
          unfold szF
          rw [Nat.zero_add]
        rw [hln] at hcv
        obtain ⟨um, km, em⟩ := hcv.len
        rw [rsz_len] at em
        subst em
        have hkm : nw ≤ km := by have h := (cells_at hcv).2.1; exact h
        have hmx : km ≤ maxLen := by obtain ⟨_, _, e8, _, h9, _⟩ := hcv; simp only [Value.slice.injEq] at e8; rw [e8.2.2]; exact h9
        obtain ⟨bm, om, _, eum, _⟩ := (cells_at hcv).2.2 0 (by rw [rsz_len]; have := HNW.out; omega)
        subst eum
        have hpart := hcv.part 0 wd (Nat.zero_le _) (by rw [rsz_len]; exact HNW.out.1) (some ⟨bm, om, none⟩) km (fun e => by cases e) (fun b' off' e _ => by cases e; simp) (fun _ _ => by simp) (by have := HNW.out; omega) hmx
        rw [Nat.sub_zero, List.drop_zero] at hpart
        have hdt : (rszL (Ls.getD i zl).1 nw).take wd = (Ls.getD i zl).1 := by
          have h := rsz_head (HSD.out i hin).1 (n := nw) (by rw [(HSD.out i hin).2]; exact HNW.out.1)
          rwa [(HSD.out i hin).2] at h
        rw [hdt] at hpart
        have HSM := Lib.hid (show ∀ u : Growth wi, Calls Tryd.prog 26 #[.slice (some ⟨bm, om, none⟩) wd km, .slice ua wd ka] (ext wi u) (Gives (ext wi u) (.bool true)) from fun u => by
          have h := rcsame_any _ _ (.slice (some ⟨bm, om, none⟩) wd km) (.slice ua wd ka) _ _ (ext wi u) (hpart.below u.ok) (hca.below u.ok)
          rwa [sameC_self] at h)
        have hwk : wd ≤ km := by have := HNW.out; omega
        have hwk2 : (wd : Int) ≤ (km : Int) := by omega
        have hwk3 : (0 : Int) ≤ (wd : Int) := by omega
        clear z0 z1 z2 hcv hca hpart hdt hln hmx hbb x0 hxi
        go_upto_region 14 with (fail)
        refine wp_region_ext (by kernel_rfl) (by kernel_rfl) ?_
        repeat (go_big_quiet_step ((go_at_call 26; exact callx (HSM.out _))))
        refine wpQuiet_nil ?_
        intro _ hw'
        obtain ⟨u, hw''⟩ := hw'
        subst hw''
        have HZ := Lib.hid (HBI.out.trans (u.ok.mono HBI.out.size))
        go_wp2
        go_roundw
        case rel => exact ⟨i + 1, by omega, by go_num, HZ.out⟩
        case measure => simp [intOf] <;> omega
      · have l1 : decide ((i : Int) < (n : Int)) = false := by rw [decide_eq_false_iff_not]; omega
        have l2 : decide (i < n) = false := by rw [decide_eq_false_iff_not]; omega
        clear z0 z1 hcv hbb x0 hxi hin
        go_upto_region 14 with (fail)
        refine wp_region_ext (by kernel_rfl) (by kernel_rfl) ?_
        repeat (go_big_quiet_step ((fail)))
        refine wpQuiet_nil ?_
        intro _ hw'
        obtain ⟨u, hw''⟩ := hw'
        subst hw''
        have HZ := Lib.hid (HBI.out.trans (u.ok.mono HBI.out.size))
        go_wp2
        go_roundw
        case rel => exact ⟨i + 1, by omega, by go_num, HZ.out⟩
        case measure => simp [intOf] <;> omega
    · obtain rfl : i = nh := by omega
      have j1 : decide ((i : Int) < (i : Int)) = false := by rw [decide_eq_false_iff_not]; omega
      have HF := Lib.hid (B9.out.trans (HBI.out.mono B9.out.size))
      go_wp2
      go_ret
      exact ⟨(ret_eq (by first | rfl | (simp <;> omega))), HF.out⟩
set_option maxRecDepth 100000 in
theorem walk {H : Type} {enc : TypeId × Value → H} (W : World) (u : Value) {base : Nat} {d : DataW H} {p : List MemPlace} (hv : Value.okWide Tryd.prog W .any base 71 u) (h : DataW.Trod enc Tryd.prog W 0 (fun _ => true) true 71 u d p) (a : Int) (_ : (Lit.int .i64 a).wf = true) (b : Int) (_ : (Lit.int .i64 b).wf = true) (_ : laidMetH Tryd.prog Rows.sizeKeepsRow.laid W) : Calls Tryd.prog 8 #[u, .int .i64 a, .int .i64 b] W (Yes W) := by
  have hE := opens_triple (P := Tryd.prog) Tryd.underlying71 (by kernel_rfl) rfl rfl rfl (opens_slice Tryd.underlying27 (by kernel_rfl) (by decide) (opens_pair Tryd.underlying59 (by kernel_rfl) rfl rfl (opens_slice Tryd.underlying57 (by kernel_rfl) (by decide) (opens_pair Tryd.underlying85 (by kernel_rfl) rfl rfl (opens_int (k := .i64) Tryd.underlying3 (by kernel_rfl)) (opens_slice Tryd.underlying33 (by kernel_rfl) (by decide) (opens_int (k := .i32) Tryd.underlying21 (by kernel_rfl))))) (opens_bool Tryd.underlying4 (by kernel_rfl)))) (opens_triple Tryd.underlying29 (by kernel_rfl) rfl rfl rfl (opens_int (k := .i64) Tryd.underlying3 (by kernel_rfl)) (opens_int (k := .i64) Tryd.underlying3 (by kernel_rfl)) (opens_bool Tryd.underlying4 (by kernel_rfl))) (opens_bool Tryd.underlying4 (by kernel_rfl))
  obtain ⟨cs, ⟨Ls, ⟨P, Q, S⟩, au⟩, rfl, ⟨C1, C2, hcs, ⟨tv, rfl, ht⟩, C3, C4, rfl, ⟨C5, C6, rfl, rfl, C7, C8, rfl, rfl, rfl⟩, rfl⟩, _⟩ := opens_struct Tryd.underlying71 hE hv h
  obtain rfl : cs = #[tv, .int .i64 P, .int .i64 Q, .bool S, .bool au] := by
    apply Array.toList_inj.1
    rw [hcs]
    rfl
  exact walkH W tv Ls P Q S au a b _ ht

theorem door_met (os : Os) : laidMetH Tryd.prog Rows.sizeKeepsRow.laid ((World.doorLaid Tryd.prog 400 os).forCall (fun _ _ => 0) ⟨#[], #[.agg #[.slice none 0 0, .int .i64 0, .int .i64 0, .bool false, .bool false], .int .i64 0, .int .i64 0], []⟩).memory :=
  laidMetH_of_parts3 (fuel := 8) (laidMet_of_run' 8 (by kernel_rfl) (by kernel_rfl)) (by kernel_rfl) (by kernel_rfl)

set_option maxRecDepth 100000 in
theorem lifted (os : Os) (started : os.Started) (H : Type) (enc : TypeId × Value → H) :
    ReturnsInHanded {} Tryd.checked os 8 .any (fun w args => (Rows.sizeKeepsSpec.pre enc Tryd.prog Tryd.f8 [] false w args ∧ laidMetH Tryd.prog Rows.sizeKeepsRow.laid w) ∧ sizedMet enc Tryd.prog Tryd.f8 (OpenSpec.ofChange Rows.sizeKeepsSpec) false w args)
      (Rows.sizeKeepsSpec.post enc Tryd.prog Tryd.f8 false true false false) := by
  refine law_frame (C := Tryd.checked) (tb := 4) (by kernel_rfl) started (by kernel_rfl) Tryd.func8 (by kernel_rfl) (by kernel_rfl) Tryd.underlying4 rfl
    (by rw [Tryd.params8]; intro t ht; simp at ht; rcases ht with rfl | rfl <;> exact ⟨by kernel_rfl, of_decide_eq_true (by kernel_rfl)⟩)
    (by rw [Tryd.params8]; intro ds hd; match ds, hd with | [_, _, _], _ => rfl)
    (ChangeSpec.witness_shaped (enc := enc) (C := Tryd.checked) (os := os) (X := fun w _ => laidMetH Tryd.prog Rows.sizeKeepsRow.laid w) false (World.doorLaid Tryd.prog 400 os) #[.agg #[.slice none 0 0, .int .i64 0, .int .i64 0, .bool false, .bool false], .int .i64 0, .int .i64 0] 8 rfl (World.shaped_of_RefB (by kernel_rfl) (by kernel_rfl)) (by kernel_rfl) (by kernel_rfl) (by kernel_rfl) (door_met os)) ?_
  intro W base args ds before hval hA hsz hL
  rw [Tryd.params8] at hA hval
  obtain ⟨v0, vs0, d0, ds0, p0, q0, hargs, rfl, rfl, h0, r0⟩ := trodAll_cons hA
  obtain ⟨v1, vs1, d1, ds1, p1, q1, rfl, rfl, rfl, h1, r1⟩ := trodAll_cons r0
  obtain ⟨v2, vs2, d2, ds2, p2, q2, rfl, rfl, rfl, h2, r2⟩ := trodAll_cons r1
  obtain ⟨rfl, rfl, rfl⟩ := trodAll_nil r2
  obtain rfl : args = #[v0, v1, v2] := by cases args; simp_all
  obtain ⟨x1, rfl, rfl, rfl, wx1⟩ := open_int Tryd.underlying3 (hval 1 3 v1 rfl rfl) h1
  obtain ⟨x2, rfl, rfl, rfl, wx2⟩ := open_int Tryd.underlying3 (hval 2 3 v2 rfl rfl) h2
  exact walk W v0 (hval 0 71 v0 rfl rfl) h0 x1 wx1 x2 wx2 hL

theorem said : Rows.SizeKeepsSaid :=
  OpenClaim.holds_of_wide 8 Tryd.f8 rfl rfl rfl rfl rfl rfl rfl ⟨rfl, rfl, rfl, rfl, rfl⟩ rfl rfl rfl rfl rfl (by kernel_rfl) Tryd.func8 (by kernel_rfl)
    (of_decide_eq_true (by kernel_rfl)) (by unfold Func.isWrapper; first | (rw [if_pos (by decide +kernel)]; kernel_rfl) | (rw [if_neg (by decide +kernel)]; exact ⟨rfl, rfl⟩))
    (fun os started H enc _ => lifted os started H enc)

theorem plain (f : FuncId) (fn : Func) (hf : Tryd.pinned.checked.prog.funcNamed "linotype/linotypelaw39.SizeKeeps" = some f) (hfn : Tryd.pinned.checked.prog.funcs[f]? = some fn) :
    true = Tryd.pinned.checked.prog.looks [] ∧ ∀ (j : Nat) t, fn.params[j]? = some t → Tryd.pinned.checked.prog.wantsStandIn t = false := by
  obtain rfl : f = 8 := Option.some.inj ((show Tryd.prog.funcNamed "linotype/linotypelaw39.SizeKeeps" = some 8 by kernel_rfl).symm.trans hf) |>.symm
  obtain rfl : fn = Tryd.f8 := (Option.some.inj (Tryd.func8.symm.trans hfn)).symm
  refine ⟨by kernel_rfl, fun j t ht => ?_⟩
  rw [Tryd.params8] at ht
  have hm : t ∈ [71, 3, 3] := by simpa using Array.mem_of_getElem? ht
  have hall : ([71, 3, 3].all fun u => !Tryd.prog.wantsStandIn u) = true := by kernel_rfl
  exact (show Tryd.prog.wantsStandIn t = false by simpa using List.all_eq_true.1 hall t hm)

/-- THE CARD. -/
theorem card : Rows.SizeKeepsCardSaid :=
  Claim7.holds_tied_plain_at .later [] _ _ _ _ said (fun _ h => by cases h) (by kernel_rfl) (fun _ h => by cases h) sizeKeeps_row_tie rfl ⟨rfl, rfl⟩ (by kernel_rfl) rfl plain (by kernel_rfl)
#print axioms card

end Go.Proofs.YteinppjklhomnaaDoor.lawSizeKeeps
