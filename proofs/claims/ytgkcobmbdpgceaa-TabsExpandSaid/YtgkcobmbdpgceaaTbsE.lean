/- The reference's Expand (57). -/
import Derived.Test.YtgkcobmbdpgceaaTbsR
import Derived.Test.YtgkcobmbdpgceaaMg7
import Derived.Test.YtgkcobmbdpgceaaGraN
import Derived.Test.YtgkcobmbdpgceaaMeaF
import Derived.Lib.MinMax
import Derived.Deep.Cut
namespace Go.Proofs.Ytgkcobmbdpgceaa
open Go.RowKit Go.ChangeShapes Go.WideShapes
theorem info_t5 : (Try.prog.info? 21).map (fun i => (i.zero, i.size, i.bytes)) = some (some (.int .i32 0), (intE .i32).size, 4) := by kernel_rfl
set_option maxRecDepth 100000 in
set_option maxHeartbeats 4000000 in
theorem rexp_any (cv v : Value) (cols xs : List Int) (w : World) (hc : Held .i64 w cv cols) (hx : HeldE (intE .i32) (fun b => b < w.heap.size) w v xs) (hn : xs.length ≤ 1000000) (hnc : cols.length ≤ 1000000) (hr : bounds32 xs) : Calls Try.prog 39 #[cv, v] w (Cloned 21 .i32 w (expC (ofF cols) xs)) := by
  have HCL := Lib.hid (rclus_any _ v xs w hx hn hr)
  have HA := Lib.hid (fun k h => cluA_at xs k h)
  have HML := Lib.hid (clA_len xs)
  have HMB := Lib.hid (clS_len xs)
  have HR := Lib.hid hr
  have HNX := Lib.hid (show ∀ (col : Int) w', Below w.heap.size w w' → Calls Try.prog 34 #[cv, .int .i64 col] w' (fun e w9 => e = .returned (.int .i64 (nextF (ofF cols) col)) ∧ w' = w9) from fun col w' b => rnext_any cv cols col w' (hc.below b) hnc)
  obtain ⟨co, cc, rfl⟩ := hc.len
  obtain ⟨ao, ca, rfl⟩ := hx.len
  obtain ⟨F, hF⟩ : ∃ F, F = ofF cols := ⟨_, rfl⟩
  rw [← hF] at HNX ⊢
  obtain ⟨cl9, hcl9⟩ : ∃ c, c = cols.length := ⟨_, rfl⟩
  rw [← hcl9] at HNX ⊢
  clear hc hx hr hF hcl9 hnc
  go_enter Try.func39, Try.ntmps39
  go_wp2_with fail
  refine HCL.out.mono ?_
  rintro e w1 ⟨v1, rfl, ho1, b1⟩
  have hh1 := (ho1.held (fun b h _ => h)).lower
  obtain ⟨a1, c1, rfl⟩ := hh1.len
  have hcap := hh1.spots.2.1
  have HH := Lib.hid hh1
  have HB1 := Lib.hid b1
  obtain ⟨mc, hm⟩ : ∃ mc, mc = (cluA xs).length := ⟨_, rfl⟩
  have HMC := Lib.hid hm
  rw [← hm] at HH hcap ⊢
  have hmn : mc ≤ 1000000 := by rw [hm, HML.out]; have := HMB.out; omega
  clear ho1 b1 hh1 hm HCL
  go_wp2
  go_loopw [5, 6, 8] (fun ov uv i wr => ∃ k : Nat, k ≤ mc ∧ i = .int .i64 k ∧ uv = .int .i64 (expT F ((cluA xs).take k)).2 ∧ OwnE (intE .i32) (fun _ => True) wr w1.heap.size 21 ov (expT F ((cluA xs).take k)).1 ∧ ExpB k (expT F ((cluA xs).take k)) ∧ Below w1.heap.size w1 wr) (fun _ _ i _ => mc - (intOf i).toNat)
  case atStart => exact ⟨0, Nat.zero_le _, rfl, rfl, OwnE.nil _ _ _ _ _, ExpB.zero, Below.refl _ _⟩
  case round =>
    obtain ⟨k, hk, rfl, huv, hown, heb, hbw⟩ := hrel
    obtain ⟨ov, hov⟩ : ∃ ov, ov = u5 := ⟨_, rfl⟩
    rw [← hov] at hown ⊢
    obtain ⟨uv, huv0⟩ : ∃ uv, uv = u6 := ⟨_, rfl⟩
    rw [← huv0] at huv ⊢
    subst huv
    obtain ⟨wk, hwk⟩ : ∃ wk, wk = wr := ⟨_, rfl⟩
    subst hwk
    have HBW := Lib.hid hbw
    clear hov huv0 hbw
    by_cases hlt : k < mc
    · have hh := (HH.out.below HBW.out).spots.2.2
      obtain ⟨ba, oa, e1, hb1, hz1, C1, q1, tv, hC1, ht⟩ := hh k (by rw [← HMC.out]; exact hlt)
      subst e1 hC1
      have d1 : wk.cell? ⟨ba, oa + k, none⟩ = some tv := by have := q1 0 (by decide); simpa [show rowE.size = 1 from rfl] using this
      have ha := HA.out k (by rw [← HML.out, ← HMC.out]; exact hlt)
      rw [show rowE.zero = ([] : List Int) from rfl] at ht
      have htk := ha.2.2.2.2
      have htr := ha.2.2.2.1 HR.out
      have htl := ha.2.1
      have htm := ha.2.2.1
      have hts := expT_snoc F ((cluA xs).take k) ((cluA xs).getD k [])
      rw [← htk] at hts
      have hst := heb.step (F := F) (T := (cluA xs).getD k []) (by omega)
      rw [← hts] at hst
      obtain ⟨T, hT⟩ : ∃ T, T = (cluA xs).getD k [] := ⟨_, rfl⟩
      rw [← hT] at ht htr htl htm hts
      obtain ⟨NX, hNX⟩ : ∃ NX, NX = expT F ((cluA xs).take (k + 1)) := ⟨_, rfl⟩
      rw [← hNX] at hts hst
      have HNXE := Lib.hid hNX
      have HTS := Lib.hid hts
      have HST := Lib.hid hst
      obtain ⟨S, hS⟩ : ∃ S, S = expT F ((cluA xs).take k) := ⟨_, rfl⟩
      rw [← hS] at hown heb HTS ⊢
      obtain ⟨OUT, col⟩ := S
      simp only at hown heb ⊢
      have HO := Lib.hid hown
      have HEB := Lib.hid (show 0 ≤ col ∧ col ≤ 2001023 ∧ OUT.length ≤ 1001023000000 from ⟨heb.1, by have := heb.2.1; simp only at this; omega, by have := heb.2.2; simp only at this; omega⟩)
      have HTL := Lib.hid (show 0 < T.length ∧ T.length ≤ 1000000 from ⟨htl, by omega⟩)
      have HTR := Lib.hid htr
      obtain ⟨xa, xc, rfl⟩ := ht.len
      have hxcap := ht.spots.2.1
      obtain ⟨b, off, rfl, hb, c0⟩ := ht.ints.spots 0 htl
      obtain ⟨b9, off9, e9, hb9, cl⟩ := ht.ints.spots (T.length - 1) (by omega)
      cases e9
      obtain ⟨b8, o8, e8, hb8, hz8, _⟩ := ht.spots.2.2 0 htl
      cases e8
      rw [Nat.add_zero] at c0
      have HBZ := Lib.hid (show b < w1.heap.size from hz8)
      have HCB := Lib.hid hb
      obtain ⟨tn, htn2⟩ : ∃ tn, tn = T.length := ⟨_, rfl⟩
      have HTW := Lib.hid ht
      rw [← htn2] at HTW cl hxcap d1
      have HTN := Lib.hid htn2
      obtain ⟨ch, hch⟩ : ∃ ch, ch = T.getD 0 0 := ⟨_, rfl⟩
      rw [← hch] at c0
      have HCH := Lib.hid hch
      obtain ⟨q, hq9⟩ : ∃ q, q = tn - 1 := ⟨_, rfl⟩
      rw [← hq9] at cl
      obtain ⟨lc, hlc⟩ : ∃ lc, lc = T.getD q 0 := ⟨_, rfl⟩
      rw [← hlc] at cl
      have HLC := Lib.hid hlc
      have HCLQ := Lib.hid cl
      have htp : 0 < tn := by omega
      have hsub : IntKind.i64.wrap ((tn : Int) - 1) = (q : Int) := by rw [IntKind.wrap_i64]; omega
      have hqt : q < tn := by omega
      have hqti : (q : Int) < (tn : Int) := by omega
      have hqc : q < xc := by omega
      have HQ := Lib.hid (show T.length - 1 = q from by omega)
      have hki : (k : Int) < (mc : Int) := by omega
      have hwk : IntKind.i64.wrap ((k : Int) + 1) = (k : Int) + 1 := by rw [IntKind.wrap_i64]; omega
      have hkc : k < c1 := by omega
      have HEND := Lib.hid (show ∀ (ov2 : Value) (w' : World), OwnE (intE .i32) (fun _ => True) w' w1.heap.size 21 ov2 NX.1 → Below w1.heap.size w1 w' → ∃ k2 : Nat, k2 ≤ mc ∧ Value.int .i64 ((k : Int) + 1) = .int .i64 k2 ∧ Value.int .i64 NX.2 = .int .i64 (expT F ((cluA xs).take k2)).2 ∧ OwnE (intE .i32) (fun _ => True) w' w1.heap.size 21 ov2 (expT F ((cluA xs).take k2)).1 ∧ ExpB k2 (expT F ((cluA xs).take k2)) ∧ Below w1.heap.size w1 w' from fun ov2 w' q1 q2 => ⟨k + 1, hlt, by go_num, by rw [HNXE.out], by rw [← HNXE.out]; exact q1, by rw [← HNXE.out]; exact HST.out, q2⟩)
      clear hh q1 ht htk htr htl htm hts hT hNX hS hown heb hst hb hb8 hb9 hz8 htn2 hch hq9 hlc cl hb1 hxcap
      by_cases htab : tn = 1 ∧ ch = 9
      · have hq1 : ((tn : Int) == 1) = true := by rw [beq_iff_eq]; omega
        have hq2 : (ch == 9) = true := by rw [beq_iff_eq]; exact htab.2
        have hN : NX = (OUT ++ List.replicate (max (nextF F col - col) 1).toNat 32, col + max (nextF F col - col) 1) := by rw [HTS.out]; unfold tabS; rw [if_pos ⟨by rw [← HTN.out]; exact htab.1, by rw [← HCH.out]; exact htab.2⟩]
        have hnb := nextF_bd F col
        have hnxt := HNX.out col wk (HB1.out.trans (HBW.out.mono HB1.out.size))
        obtain ⟨nx, hnx⟩ : ∃ nx, nx = nextF F col := ⟨_, rfl⟩
        rw [← hnx] at hN hnb hnxt
        obtain ⟨cn, hcn⟩ : ∃ cn : Nat, max (nx - col) 1 = (cn : Int) := ⟨(max (nx - col) 1).toNat, by omega⟩
        rw [hcn, Int.toNat_natCast] at hN
        have HN := Lib.hid hN
        have HCNB := Lib.hid (show cn ≤ 1023 by have := HEB.out; omega)
        have HTO := Lib.hid (show max nx (col + 1) = col + (cn : Int) by omega)
        have hw1 : IntKind.i64.wrap (col + 1) = col + 1 := by rw [IntKind.wrap_i64]; have := HEB.out; omega
        clear htab hN hcn hnx hnb
        go_wp2_with fail
        refine hnxt.mono ?_
        clear hnxt
        rintro e w2 ⟨rfl, rfl⟩
        go_upto_region 10 with (fail)
        rw [HTO.out]
        go_loopw [5, 6] (fun ov uv wr => ∃ j : Nat, j ≤ cn ∧ uv = .int .i64 (col + (j : Int)) ∧ OwnE (intE .i32) (fun _ => True) wr w1.heap.size 21 ov (OUT ++ List.replicate j 32) ∧ Below w1.heap.size w1 wr) (fun _ uv _ => (col + (cn : Int) - intOf uv).toNat)
        case atStart => exact ⟨0, Nat.zero_le _, by simp, by simpa using HO.out, HBW.out⟩
        case round =>
          obtain ⟨j, hj, huv, hown, hbw⟩ := hrel
          obtain ⟨oj, hoj⟩ : ∃ oj, oj = u5 := ⟨_, rfl⟩
          rw [← hoj] at hown ⊢
          obtain ⟨uv, huv0⟩ : ∃ uv, uv = u6 := ⟨_, rfl⟩
          rw [← huv0] at huv ⊢
          subst huv
          obtain ⟨wq, hwq⟩ : ∃ wq, wq = wr := ⟨_, rfl⟩
          subst hwq
          have HOJ := Lib.hid hown
          have HBJ := Lib.hid hbw
          clear hoj huv0 hown hbw
          by_cases hltj : j < cn
          · have hg : decide (col + (j : Int) < col + (cn : Int)) = true := by rw [decide_eq_true_eq]; omega
            have hwc : IntKind.i64.wrap (col + (j : Int) + 1) = col + (j : Int) + 1 := by rw [IntKind.wrap_i64]; have := HCNB.out; have := HEB.out; omega
            have b0 := (Below.refl wq.heap.size wq).alloc (Nat.le_refl _) (.cells [.int .i32 32].toArray 21)
            have HO3 := Lib.hid (HOJ.out.below b0)
            have HB3 := Lib.hid (HBJ.out.trans (b0.mono HBJ.out.size))
            have HU3 := Lib.hid (show HeldE (intE .i32) (fun b => True ∧ oj.ownBlock ≠ some b) (wq.alloc (.cells [.int .i32 32].toArray 21)) (.slice (some ⟨wq.heap.size, 0, none⟩) 1 1) [32] from heldE_one (E := intE .i32) (Y := fun _ => False) [.int .i32 32] 32 rfl (fun _ _ h => h.elim) ⟨trivial, fun e => by have := (HOJ.out.lt _ e).2; omega⟩)
            obtain ⟨PR, hPR⟩ : ∃ PR, PR = OUT ++ List.replicate j (32 : Int) := ⟨_, rfl⟩
            have HPR := Lib.hid (show PR ++ [32] = OUT ++ List.replicate (j + 1) (32 : Int) from by rw [hPR, List.append_assoc, List.replicate_succ'])
            have HPL := Lib.hid (show PR.length ≤ 1002000000000 from by rw [hPR, List.length_append, List.length_replicate]; have := HEB.out; have := HCNB.out; omega)
            rw [← hPR] at HO3
            clear b0 hPR
            go_wp2_with (at_builtin; refine wpList_append_e (E := intE .i32) (Z := fun _ => True) rfl (.tmp 41) (.tmp 42) 22 rfl (.int .i32 0) 4 Try.underlying22 info_t5 rfl (by decide) rfl rfl HO3.out HU3.out (by simp only [List.length_singleton]; have := HPL.out; omega) (by simp only [List.length_singleton]; have := HPL.out; omega) HB3.out.size ?_)
            intro v4 w4 ho4 b4 _ _
            rw [HPR.out] at ho4
            have HF1 := Lib.hid ho4
            have HF2 := Lib.hid (HB3.out.trans b4)
            clear ho4 b4
            go_wp2
            go_roundw
            case rel => exact ⟨j + 1, by omega, by rw [show col + ((j + 1 : Nat) : Int) = col + (j : Int) + 1 from by omega], HF1.out, HF2.out⟩
            case measure => simp [intOf] <;> omega
          · obtain rfl : j = cn := by omega
            have hg : decide (col + (j : Int) < col + (j : Int)) = false := by rw [decide_eq_false_iff_not]; omega
            have HFR := Lib.hid (HEND.out oj wq (by rw [HN.out]; exact HOJ.out) HBJ.out)
            rw [HN.out] at HFR
            go_wp2
            go_roundw
            case rel => exact HFR.out
            case measure => simp [intOf] <;> omega
      · have hN : NX = (OUT ++ T, if T.getD (T.length - 1) 0 = 10 then 0 else col + wdC T) := by rw [HTS.out]; unfold tabS; rw [if_neg (fun e => htab ⟨by rw [HTN.out]; exact e.1, by rw [HCH.out]; exact e.2⟩)]
        rw [HQ.out] at hN
        have HN := Lib.hid hN
        clear hN
        by_cases h1 : tn = 1
        · have hq1 : ((tn : Int) == 1) = true := by rw [beq_iff_eq]; omega
          have hq2 : (ch == 9) = false := by rw [beq_eq_false_iff_ne]; exact fun e => htab ⟨h1, e⟩
          clear htab h1
          have HU := Lib.hid (HTW.out.apart (v := ov) (w' := wk) HO.out.lt)
          have HNOW := Lib.hid (show ∀ b, b < w1.heap.size → ov.ownBlock ≠ some b from fun b hb e => by have := (HO.out.lt b e).1; omega)
          go_wp2_with (at_builtin; refine wpList_append_e (E := intE .i32) (Z := fun _ => True) rfl (.tmp 46) (.tmp 47) 22 rfl (.int .i32 0) 4 Try.underlying22 info_t5 rfl (by decide) rfl rfl HO.out HU.out (by have := HEB.out; have := HTL.out; omega) (by have := HEB.out; have := HTL.out; omega) HBW.out.size ?_)
          intro v2 w2 ho2 b2 k2 _
          have HO2 := Lib.hid ho2
          have hcv2 := (k2.cell (b := b) (o := off + q) HCB.out (HNOW.out b HBZ.out)).trans HCLQ.out
          have HB2 := Lib.hid (HBW.out.trans b2)
          have ht2 := (HTW.out.zoned (Y := fun b => b < w1.heap.size ∧ ov.ownBlock ≠ some b) (fun b _ hz => ⟨hz, HNOW.out b hz⟩)).kept (k2.mono (fun b _ hz => hz.2))
          have HT2 := Lib.hid (ht2.zoned (Y := fun b => b < w2.heap.size) (fun b hb _ => hb))
          clear ho2 b2 k2 ht2
          have HLT2 := Lib.hid (World.block_lt_of_cell? _ _ hcv2)
          have hwd := rwide_any _ (.slice (some ⟨b, off, none⟩) tn xc) T w2 (by rw [HTN.out]; rw [HTN.out] at HT2; exact HT2.out) (fun b hb => hb) HTL.out.1 HTL.out.2 HTR.out
          obtain ⟨wd, hwd9⟩ : ∃ wd, wd = wdC T := ⟨_, rfl⟩
          have hwb := wdC_bd T
          rw [← hwd9] at hwd HN hwb
          have hsw : IntKind.i64.wrap (col + wd) = col + wd := by rw [IntKind.wrap_i64]; have := HEB.out; omega
          have HCV2 := Lib.hid hcv2
          clear hwd9 hwb hcv2
          go_wp2_with fail
          refine hwd.mono ?_
          clear hwd
          rintro e w3 ⟨rfl, b3⟩
          have hcv3 := (b3.cell (p := ⟨b, off + q, none⟩) HLT2.out).trans HCV2.out
          have HF1 := Lib.hid (HO2.out.below b3)
          have HF2 := Lib.hid (HB2.out.trans (b3.mono HB2.out.size))
          clear b3
          by_cases hnl : lc = 10
          · have hb10 : (lc == 10) = true := by rw [beq_iff_eq]; exact hnl
            rw [if_pos (by rw [← HLC.out]; exact hnl)] at HN
            have HFR := Lib.hid (HEND.out _ w3 (by rw [HN.out]; exact HF1.out) HF2.out)
            rw [HN.out] at HFR
            clear hnl
            go_wp2
            go_roundw
            case rel => exact HFR.out
            case measure => simp [intOf] <;> omega
          · have hb10 : (lc == 10) = false := by rw [beq_eq_false_iff_ne]; exact hnl
            rw [if_neg (by rw [← HLC.out]; exact hnl)] at HN
            have HFR := Lib.hid (HEND.out _ w3 (by rw [HN.out]; exact HF1.out) HF2.out)
            rw [HN.out] at HFR
            clear hnl
            go_wp2
            go_roundw
            case rel => exact HFR.out
            case measure => simp [intOf] <;> omega
        · have hq1 : ((tn : Int) == 1) = false := by rw [beq_eq_false_iff_ne]; omega
          clear htab h1
          have HU := Lib.hid (HTW.out.apart (v := ov) (w' := wk) HO.out.lt)
          have HNOW := Lib.hid (show ∀ b, b < w1.heap.size → ov.ownBlock ≠ some b from fun b hb e => by have := (HO.out.lt b e).1; omega)
          go_wp2_with (at_builtin; refine wpList_append_e (E := intE .i32) (Z := fun _ => True) rfl (.tmp 46) (.tmp 47) 22 rfl (.int .i32 0) 4 Try.underlying22 info_t5 rfl (by decide) rfl rfl HO.out HU.out (by have := HEB.out; have := HTL.out; omega) (by have := HEB.out; have := HTL.out; omega) HBW.out.size ?_)
          intro v2 w2 ho2 b2 k2 _
          have HO2 := Lib.hid ho2
          have hcv2 := (k2.cell (b := b) (o := off + q) HCB.out (HNOW.out b HBZ.out)).trans HCLQ.out
          have HB2 := Lib.hid (HBW.out.trans b2)
          have ht2 := (HTW.out.zoned (Y := fun b => b < w1.heap.size ∧ ov.ownBlock ≠ some b) (fun b _ hz => ⟨hz, HNOW.out b hz⟩)).kept (k2.mono (fun b _ hz => hz.2))
          have HT2 := Lib.hid (ht2.zoned (Y := fun b => b < w2.heap.size) (fun b hb _ => hb))
          clear ho2 b2 k2 ht2
          have HLT2 := Lib.hid (World.block_lt_of_cell? _ _ hcv2)
          have hwd := rwide_any _ (.slice (some ⟨b, off, none⟩) tn xc) T w2 (by rw [HTN.out]; rw [HTN.out] at HT2; exact HT2.out) (fun b hb => hb) HTL.out.1 HTL.out.2 HTR.out
          obtain ⟨wd, hwd9⟩ : ∃ wd, wd = wdC T := ⟨_, rfl⟩
          have hwb := wdC_bd T
          rw [← hwd9] at hwd HN hwb
          have hsw : IntKind.i64.wrap (col + wd) = col + wd := by rw [IntKind.wrap_i64]; have := HEB.out; omega
          have HCV2 := Lib.hid hcv2
          clear hwd9 hwb hcv2
          go_wp2_with fail
          refine hwd.mono ?_
          clear hwd
          rintro e w3 ⟨rfl, b3⟩
          have hcv3 := (b3.cell (p := ⟨b, off + q, none⟩) HLT2.out).trans HCV2.out
          have HF1 := Lib.hid (HO2.out.below b3)
          have HF2 := Lib.hid (HB2.out.trans (b3.mono HB2.out.size))
          clear b3
          by_cases hnl : lc = 10
          · have hb10 : (lc == 10) = true := by rw [beq_iff_eq]; exact hnl
            rw [if_pos (by rw [← HLC.out]; exact hnl)] at HN
            have HFR := Lib.hid (HEND.out _ w3 (by rw [HN.out]; exact HF1.out) HF2.out)
            rw [HN.out] at HFR
            clear hnl
            go_wp2
            go_roundw
            case rel => exact HFR.out
            case measure => simp [intOf] <;> omega
          · have hb10 : (lc == 10) = false := by rw [beq_eq_false_iff_ne]; exact hnl
            rw [if_neg (by rw [← HLC.out]; exact hnl)] at HN
            have HFR := Lib.hid (HEND.out _ w3 (by rw [HN.out]; exact HF1.out) HF2.out)
            rw [HN.out] at HFR
            clear hnl
            go_wp2
            go_roundw
            case rel => exact HFR.out
            case measure => simp [intOf] <;> omega
    · obtain rfl : k = mc := by omega
      have hown := hown
      rw [show (cluA xs).take k = cluA xs from by rw [HMC.out, List.take_length]] at hown
      have HRR := Lib.hid (owns_mono hown.ints HB1.out.size)
      have HB := Lib.hid (HB1.out.trans (HBW.out.mono HB1.out.size))
      clear hown heb
      go_wp2
      go_ret
      exact ⟨_, (ret_eq (by first | rfl | (simp <;> omega))), HRR.out, HB.out⟩
end Go.Proofs.Ytgkcobmbdpgceaa
