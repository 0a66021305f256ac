/- The reference's Resize of a screen. -/
import Derived.Test.YtgndolgihplngaaDoorSizA
import Derived.Test.YtgndolgihplngaaDoorMg6
namespace Go.Proofs.YtgndolgihplngaaDoor
open Go.RowKit Go.ChangeShapes Go.WideShapes
def slLen : Value → Nat
  | .slice _ n _ => n
  | _ => 0
theorem szL_range (Ls : List Ln) (nw nh top : Nat) (h : 0 < nw) : szL Ls nw nh top (min nh (Ls.length - top)) = (List.range nh).map fun i => (rszL ((Ls.drop top).getD i zl).1 nw, false) := by
  unfold szL fillL
  apply List.map_congr_left
  intro i hi
  have hi := List.mem_range.1 hi
  have hd : (Ls.drop top).getD i zl = Ls.getD (top + i) zl := by simp [List.getD, List.getElem?_drop]
  rw [hd]
  by_cases h2 : i < min nh (Ls.length - top)
  · rw [if_pos h2]; rfl
  · rw [if_neg h2]
    have he : Ls.getD (top + i) zl = zl := by
      simp only [List.getD]
      rw [List.getElem?_eq_none (by omega)]
      rfl
    rw [he]
    show (List.replicate nw zc, false) = (rszL [] nw, false)
    unfold rszL
    rw [if_pos (by simpa using h)]
    simp
set_option maxRecDepth 100000 in
set_option maxHeartbeats 6000000 in
theorem rsize_any (Z : Zone) (v : Value) (Ls : List Ln) (r c : Int) (pd au : Bool) (a b : Int) (w : World) (hv : HeldE lineE Z w v Ls) (hZ : ∀ b, Z b → b < w.heap.size) (h0 : 0 < Ls.length) (hl : Ls.length ≤ 1024) (wd : Nat) (hwd : (Ls.getD 0 zl).1.length = wd) (hwd4 : wd ≤ 1024) (hsd : ∀ i, i < Ls.length → soundB (Ls.getD i zl).1 = true) (r2 c2 : Nat) (hr2 : inI r (sideI Ls.length) = (r2 : Int)) (hc2 : inI c (sideI wd) = (c2 : Int)) (hlr : r2 < Ls.length) (hlc : c2 < wd) (nw nh : Nat) (hnw : rowN a = nw) (hnh : rowN b = nh) :
    Calls Tryd.prog 12 #[.agg #[v, .int .i64 r, .int .i64 c, .bool pd, .bool au], .int .i64 a, .int .i64 b] w (RPen Z w (szL Ls nw nh (r2 + 1 - nh) (min nh (Ls.length - (r2 + 1 - nh)))) ((r2 - (r2 + 1 - nh) : Nat)) ((min c2 (nw - 1) : Nat)) false au) := by
  obtain ⟨ao, ca, rfl⟩ := hv.len
  have hsa : sideI a = (nw : Int) := by unfold sideI; rw [← hnw]; unfold rowN; omega
  have hsb : sideI b = (nh : Int) := by unfold sideI; rw [← hnh]; unfold rowN; omega
  have hnw1 : 1 ≤ nw ∧ nw ≤ 1024 := by rw [← hnw]; unfold rowN; omega
  have hnh1 : 1 ≤ nh ∧ nh ≤ 1024 := by rw [← hnh]; unfold rowN; omega
  obtain ⟨top, htop⟩ : ∃ top, top = r2 + 1 - nh := ⟨_, rfl⟩
  rw [← htop, szL_range _ _ _ _ hnw1.1]
  obtain ⟨W, hW, hb, hr, hl0⟩ := pboxes w (.slice ao Ls.length ca) (.int .i64 r) (.int .i64 c) (.bool pd) (.bool au) (.slice none 0 0) (.int .i64 0) (.int .i64 0) (.bool false) (.bool false)
  obtain ⟨pd2, hpd2⟩ : ∃ pd2, holdP c pd wd = pd2 := ⟨_, rfl⟩
  have hho := rph_any Z (.slice ao Ls.length ca) Ls r c pd au W (hv.below hl0) h0 wd hwd
  rw [hr2, hc2, hpd2] at hho
  have HHO := Lib.hid hho
  have HV := Lib.hid hv
  have HSD := Lib.hid hsd
  have HZ := Lib.hid hZ
  obtain ⟨n, hn⟩ : ∃ n, n = Ls.length := ⟨_, rfl⟩
  have HN := Lib.hid hn
  rw [← hn] at hW hb HHO HV h0 hl hlr ⊢
  have HB := Lib.hid hb
  have HR := Lib.hid hr
  have HL := Lib.hid hl0
  have c0 := hb.cell 0 _ rfl
  have c1 := hb.cell 1 _ rfl
  have c2' := hb.cell 2 _ rfl
  have c3 := hb.cell 3 _ rfl
  have c4 := hb.cell 4 _ rfl
  have HSA := Lib.hid (show ∀ w', Calls Tryd.prog 47 #[.int .i64 a] w' (fun e w2 => e = .returned (.int .i64 nw) ∧ w' = w2) from fun w' => by rw [← hsa]; exact refside_any a w')
  have HSB := Lib.hid (show ∀ w', Calls Tryd.prog 47 #[.int .i64 b] w' (fun e w2 => e = .returned (.int .i64 nh) ∧ w' = w2) from fun w' => by rw [← hsb]; exact refside_any b w')
  have HTOP := Lib.hid htop
  clear hv hZ hsd hn hb hr hl0 hho hr2 hc2 hpd2 hwd hnw hnh hsa hsb htop
  go_enter Tryd.func12, Tryd.ntmps12
  go_upto_region 1 with (fail)
  rw [← hW]
  clear hW
  go_wp2_with fail
  refine HHO.out.mono ?_
  rintro e w1 ⟨rfl, b1⟩
  have hb1 := HB.out.below b1 HB.out.lt
  have hr1 := HR.out.below b1 HR.out.lt
  have hl1 := HL.out.trans (b1.mono HL.out.size)
  have p0 := hb1.cell 0 _ rfl
  have p1 := hb1.cell 1 _ rfl
  have p2 := hb1.cell 2 _ rfl
  have p3 := hb1.cell 3 _ rfl
  have p4 := hb1.cell 4 _ rfl
  have f0 := hb1.free 0
  have f1 := hb1.free 1
  have f2 := hb1.free 2
  have f3 := hb1.free 3
  have f4 := hb1.free 4
  obtain ⟨bx, hbx⟩ : ∃ bx, bx = w.heap.size := ⟨_, rfl⟩
  have HBX := Lib.hid hbx
  rw [← hbx] at hb1 hr1 p0 p1 p2 p3 p4 f0 f1 f2 f3 f4 ⊢
  have hu2 := (((((Upd.refl (fun b => b = bx) w1).setCell (p := ⟨bx, 0, none⟩) (.inl rfl) (.slice ao n ca)).setCell (p := ⟨bx, 1, none⟩) (.inl rfl) (.int .i64 r2)).setCell (p := ⟨bx, 2, none⟩) (.inl rfl) (.int .i64 c2)).setCell (p := ⟨bx, 3, none⟩) (.inl rfl) (.bool pd2)).setCell (p := ⟨bx, 4, none⟩) (.inl rfl) (.bool au)
  have hh2 := ((((hb1.set 0 (.slice ao n ca)).set 1 (.int .i64 r2)).set 2 (.int .i64 c2)).set 3 (.bool pd2)).set 4 (.bool au)
  obtain ⟨W2, hW2⟩ : ∃ W2, W2 = ((((w1.setCell ⟨bx, 0, none⟩ (.slice ao n ca)).setCell ⟨bx, 1, none⟩ (.int .i64 r2)).setCell ⟨bx, 2, none⟩ (.int .i64 c2)).setCell ⟨bx, 3, none⟩ (.bool pd2)).setCell ⟨bx, 4, none⟩ (.bool au) := ⟨_, rfl⟩
  rw [← hW2] at hu2 hh2
  have hr2' := hu2.keep.has hr1 (fun e => by omega)
  have hl2 : Below w.heap.size w W2 := hl1.trans (hu2.below hl1.size fun x e => by omega)
  have HB2 := Lib.hid hh2
  have HR2 := Lib.hid hr2'
  have HL2 := Lib.hid hl2
  have HW2 := Lib.hid hW2
  clear hb1 hr1 hl1 hu2 hh2 hr2' hl2 hW2 hbx HB HR HL HHO c0 c1 c2' c3 c4 b1
  go_upto_region 2 with (fail)
  rw [← HW2.out]
  clear p0 p1 p2 p3 p4 f0 f1 f2 f3 f4 HW2
  have c0 := HB2.out.cell 0 _ rfl
  have c1 := HB2.out.cell 1 _ rfl
  have c2' := HB2.out.cell 2 _ rfl
  have c3 := HB2.out.cell 3 _ rfl
  go_wp2_with fail
  refine (HSA.out W2).mono ?_
  rintro e w3 ⟨rfl, rfl⟩
  go_wp2_with fail
  refine (HSB.out W2).mono ?_
  rintro e w3 ⟨rfl, rfl⟩
  have hb3 := (Below.refl W2.heap.size W2).alloc (Nat.le_refl _) (.cells [Value.int .i64 r2, .int .i64 c2, .bool pd2].toArray 24)
  have hn3 := Has.new W2 [Value.int .i64 r2, .int .i64 c2, .bool pd2] 24
  obtain ⟨W4, hW4⟩ : ∃ W4, W4 = W2.alloc (.cells [Value.int .i64 r2, .int .i64 c2, .bool pd2].toArray 24) := ⟨_, rfl⟩
  rw [← hW4] at hb3 hn3
  obtain ⟨g8, hg8⟩ : ∃ g8, g8 = W2.heap.size := ⟨_, rfl⟩
  rw [← hg8] at hn3
  have h8 : w.heap.size ≤ g8 ∧ bx + 1 < g8 := ⟨by rw [hg8]; exact HL2.out.size, by rw [hg8]; exact HR2.out.lt⟩
  have H8 := Lib.hid h8
  have HB4 := Lib.hid (HB2.out.below hb3 HB2.out.lt)
  have HR4 := Lib.hid (HR2.out.below hb3 HR2.out.lt)
  have HL4 := Lib.hid (HL2.out.trans (hb3.mono HL2.out.size))
  have HC4 := Lib.hid hn3
  have HW4 := Lib.hid (show W4 = W2.alloc (.cells #[Value.int .i64 r2, .int .i64 c2, .bool pd2] 24) from hW4)
  have HG8 := Lib.hid hg8
  clear hb3 hn3 hg8 hW4 h8 HR2 HB2 HL2
  go_upto_region 6 with (fail)
  rw [← HW4.out, ← HG8.out]
  clear HW4 HG8 c0 c1 c2' c3
  have HV4 := Lib.hid (HV.out.below HL4.out)
  clear HV
  go_loopw [7] (fun t wr => ∃ k : Nat, k ≤ top ∧ slLen t = n - k ∧ HeldE lineE Z wr t (Ls.drop k) ∧ Has wr bx [.slice ao n ca, .int .i64 r2, .int .i64 c2, .bool pd2, .bool au] 39 ∧ Has wr (bx + 1) [.slice none 0 0, .int .i64 0, .int .i64 0, .bool false, .bool false] 39 ∧ Has wr g8 [.int .i64 ((r2 - k : Nat)), .int .i64 c2, .bool pd2] 24 ∧ Below w.heap.size w wr) (fun t _ => slLen t)
  case atStart => exact ⟨0, Nat.zero_le _, rfl, HV4.out, HB4.out, HR4.out, HC4.out, HL4.out⟩
  case round =>
    obtain ⟨k, hk, hst, hm, hbx, hrx, hcx, hlx⟩ := hrel
    obtain ⟨wi, hwi⟩ : ∃ wi, wi = wr := ⟨_, rfl⟩
    subst hwi
    obtain ⟨t, htt⟩ : ∃ t, t = u7 := ⟨_, rfl⟩
    rw [← htt] at hst hm ⊢
    clear htt
    have hln : (Ls.drop k).length = n - k := by rw [List.length_drop, ← HN.out]
    obtain ⟨ok, ck, et⟩ := hm.len
    rw [hln] at et
    subst et
    have HM := Lib.hid hm
    have HB := Lib.hid hbx
    have HR := Lib.hid hrx
    have HC := Lib.hid hcx
    have HLX := Lib.hid hlx
    have HST := Lib.hid hst
    have x0 := hcx.cell 0 _ rfl
    have xf := hcx.free 0
    obtain ⟨rk, hrk⟩ : ∃ rk, rk = r2 - k := ⟨_, rfl⟩
    have hkt := HTOP.out
    rw [← hrk] at x0
    have HRK := Lib.hid hrk
    clear hm hbx hrx hcx hlx hst hln
    by_cases hlt : nh ≤ rk
    · have j1 : decide ((nh : Int) ≤ (rk : Int)) = true := by rw [decide_eq_true_eq]; omega
      have j2 : decide (nh ≤ rk) = true := by rw [decide_eq_true_eq]; omega
      obtain ⟨m, hmm⟩ : ∃ m, m = n - k := ⟨_, rfl⟩
      have hm1 : 1 < m := by omega
      rw [← hmm] at HM ⊢
      obtain ⟨b, off, _, eo, _⟩ := (lines_at HM.out).2.2 0 (by rw [List.length_drop, ← HN.out]; omega)
      subst eo
      have hck : m ≤ ck := (lines_at HM.out).2.1
      have hmx : ck ≤ maxLen := by obtain ⟨_, _, e8, _, h9, _⟩ := HM.out; simp only [Value.slice.injEq] at e8; rw [e8.2.2]; exact h9
      have hpart := HM.out.part 1 m (by omega) (by rw [List.length_drop, ← HN.out]; omega) (some ⟨b, off + 2, none⟩) (ck - 1) (fun e => by cases e) (fun b' off' e _ => by cases e; rfl) (fun _ _ => by simp) (by omega) (by omega)
      have hdt : ((Ls.drop k).drop 1).take (m - 1) = Ls.drop (k + 1) := by
        rw [List.drop_drop, List.take_of_length_le]
        rw [List.length_drop, ← HN.out]; omega
      rw [hdt] at hpart
      have hrk := HRK.out
      have hw1 : ((r2 - k : Nat) : Int) - 1 = ((r2 - (k + 1) : Nat) : Int) := by omega
      have hw2 : IntKind.i64.wrap (((r2 - k : Nat) : Int) - 1) = ((r2 - k : Nat) : Int) - 1 := by rw [IntKind.wrap_i64]; omega
      have hu := (Upd.refl (fun x => x = g8) wi).setCell (p := ⟨g8, 0, none⟩) (.inl rfl) (.int .i64 (((r2 - k : Nat) : Int) - 1))
      have hh := HC.out.set 0 (.int .i64 (((r2 - k : Nat) : Int) - 1))
      obtain ⟨W5, hW5⟩ : ∃ W5, W5 = wi.setCell ⟨g8, 0, none⟩ (.int .i64 (((r2 - k : Nat) : Int) - 1)) := ⟨_, rfl⟩
      rw [← hW5] at hu hh
      have HM5 := Lib.hid (hpart.upd hu (fun x hx e => by have := HZ.out x hx; have := H8.out; omega))
      have HB5 := Lib.hid (hu.keep.has HB.out (fun e => by have := H8.out; omega))
      have HR5 := Lib.hid (hu.keep.has HR.out (fun e => by have := H8.out; omega))
      have HC5 := Lib.hid (show Has W5 g8 [.int .i64 ((r2 - (k + 1) : Nat) : Int), .int .i64 c2, .bool pd2] 24 from by rw [← hw1]; exact hh)
      have HL5 := Lib.hid (HLX.out.trans (hu.below HLX.out.size fun x e => by have := H8.out; omega))
      have HW5 := Lib.hid hW5
      have hz1 : (1 : Int) ≤ (m : Int) := by omega
      have hz2 : ¬ (ck = 1) := by omega
      have hz3 : 1 ≤ m := by omega
      have hz4 : (m : Int) ≤ (ck : Int) := by omega
      have hmm2 : m - 1 = n - (k + 1) := by omega
      have hkt2 : k + 1 ≤ top := by omega
      have HST2 := Lib.hid hmm2
      have HMM := Lib.hid hmm
      clear hpart hdt hu hh hW5 hmx hmm hw1
      go_wp2
      rw [← HW5.out]
      refine ⟨⟨k + 1, hkt2, rfl, ?_, HB5.out, HR5.out, HC5.out, HL5.out⟩, by simp only [slLen]; omega⟩
      rw [← HST2.out]
      exact HM5.out
    · have j1 : decide ((nh : Int) ≤ (rk : Int)) = false := by rw [decide_eq_false_iff_not]; omega
      have j2 : decide (nh ≤ rk) = false := by rw [decide_eq_false_iff_not]; omega
      obtain rfl : k = top := by omega
      have HLN := Lib.hid (show (Ls.drop k).length = n - k from by rw [List.length_drop, ← HN.out])
      obtain ⟨LD, hLD⟩ : ∃ LD, LD = Ls.drop k := ⟨_, rfl⟩
      have HLD := Lib.hid hLD
      rw [← hLD] at HM HLN
      obtain ⟨m, hmm⟩ : ∃ m, m = n - k := ⟨_, rfl⟩
      rw [← hmm] at HM HLN ⊢
      have hmle : m ≤ 1024 := by omega
      have HSL := Lib.hid (show ∀ i, i < m → soundB (LD.getD i zl).1 = true from fun i hi => by
        have hd : LD.getD i zl = Ls.getD (k + i) zl := by rw [hLD]; simp [List.getD, List.getElem?_drop]
        rw [hd]
        exact HSD.out _ (by rw [← HN.out]; omega))
      have hmck : m ≤ ck := (lines_at HM.out).2.1
      clear hmm hLD hkt
      have HKT := Lib.hid (show k = r2 + 1 - nh from HTOP.out)
      obtain ⟨F, hF⟩ : ∃ F : Nat → Ln, F = fun i => (rszL (LD.getD i zl).1 nw, false) := ⟨_, rfl⟩
      have HF := Lib.hid hF
      have HRB := Lib.hid (show bx + 1 < wi.heap.size ∧ w.heap.size ≤ wi.heap.size from ⟨HR.out.lt, HLX.out.size⟩)
      obtain ⟨rd, hrd⟩ : ∃ rd, rd = r2 - k := ⟨_, rfl⟩
      have HRD := Lib.hid hrd
      rw [← hrd] at HC
      have hrk2 := HRK.out
      have j5 : decide (nh ≤ r2 - k) = false := by rw [decide_eq_false_iff_not]; omega
      have j6 : decide ((nh : Int) ≤ ((r2 - k : Nat) : Int)) = false := by rw [decide_eq_false_iff_not]; omega
      clear hF hk HRK hrd hrk2
      go_wp2
      clear j5 j6
      clear hlt j1 j2 x0 xf
      go_loopw [9, 10] (fun t i wr => ∃ q : Nat, q ≤ nh ∧ i = .int .i64 q ∧ OwnE lineE (fun b => Z b ∨ wi.heap.size ≤ b) wr wi.heap.size 56 t ((List.range q).map F) ∧ Below wi.heap.size wi wr) (fun _ i _ => nh - (intOf i).toNat)
      case atStart => exact ⟨0, Nat.zero_le _, rfl, OwnE.nil _ _ _ _ _, Below.refl _ _⟩
      case round =>
        obtain ⟨q, hq, rfl, hown, hbw⟩ := hrel
        have HBW := Lib.hid hbw
        have HO := Lib.hid hown
        clear hbw hown
        obtain ⟨t, htt⟩ : ∃ t, t = u9 := ⟨_, rfl⟩
        rw [← htt] at HO ⊢
        clear htt
        obtain ⟨wq, hwq⟩ : ∃ wq, wq = wr := ⟨_, rfl⟩
        subst hwq
        by_cases hlt : q < nh
        · have j1 : decide ((q : Int) < (nh : Int)) = true := by rw [decide_eq_true_eq]; omega
          have j3 : decide (q < nh) = true := by rw [decide_eq_true_eq]; omega
          have hwj : IntKind.i64.wrap ((q : Int) + 1) = (q : Int) + 1 := by rw [IntKind.wrap_i64]; omega
          have HLO := Lib.hid HO.out.lt
          have hww := HBW.out.size
          by_cases hqm : q < m
          · have l1 : decide ((q : Int) < (m : Int)) = true := by rw [decide_eq_true_eq]; omega
            have l2 : decide (q < m) = true := by rw [decide_eq_true_eq]; omega
            have hqi : (q : Int) < (m : Int) := by omega
            have hqc : q < ck := by omega
            obtain ⟨b, off, cv, eok, hbb, _, z0, _, hcv⟩ := (lines_at (HM.out.below HBW.out)).2.2 q (by rw [HLN.out]; exact hqm)
            subst eok
            obtain ⟨co, cc, ecv⟩ := hcv.len
            subst ecv
            have hrz := rresize_any (fun b => Z b ∨ wq.heap.size ≤ b) _ (LD.getD q zl).1 (nw : Int) wq (fun b h => .inr h) (hcv.zone fun b _ h => .inl h) (HSL.out q hqm)
            rw [show rowN (nw : Int) = nw from by unfold rowN; omega] at hrz
            have HRZ := Lib.hid hrz
            clear hrz hcv hbb
            go_wp2_with fail
            refine HRZ.out.mono ?_
            rintro e w6 ⟨v6, rfl, ho6, b6⟩
            have hc6 := ho6.held (fun b h1 _ => .inr h1)
            obtain ⟨so, sc, ev6⟩ := hc6.len
            rw [rsz_len] at ev6
            subst ev6
            have b7 := (Below.refl w6.heap.size w6).alloc (Nat.le_refl _) (.cells [Value.slice so nw sc, .bool false].toArray 56)
            have hfq : F q = (rszL (LD.getD q zl).1 nw, false) := by rw [HF.out]
            have HX := Lib.hid (show HeldE lineE (fun b => (Z b ∨ wi.heap.size ≤ b) ∧ t.ownBlock ≠ some b) (w6.alloc (.cells [Value.slice so nw sc, .bool false].toArray 56)) (.slice (some ⟨w6.heap.size, 0, none⟩) 1 1) [F q] from by
              rw [hfq]
              exact heldE_one (Y := fun b => Z b ∨ wq.heap.size ≤ b) [Value.slice so nw sc, .bool false] (rszL (LD.getD q zl).1 nw, false) (line_rep.2 ⟨_, rfl, hc6⟩) (fun b hb e => ⟨by
                rcases e with e | e
                · exact .inl e
                · exact .inr (Nat.le_trans hww e), fun e2 => by
                have h1 := HLO.out _ e2
                have h2 := HRB.out
                rcases e with e | e
                · have := HZ.out b e; omega
                · omega⟩) ⟨.inr (Nat.le_trans hww b6.size), fun e2 => by have := (HLO.out _ e2).2; have := b6.size; omega⟩)
            have hs : (List.range (q + 1)).map F = (List.range q).map F ++ [F q] := by rw [List.range_succ, List.map_append]; rfl
            obtain ⟨P0, hP⟩ : ∃ P0, P0 = (List.range q).map F := ⟨_, rfl⟩
            have hpl : P0.length ≤ 1024 := by rw [hP, List.length_map, List.length_range]; omega
            rw [← hP] at HO hs
            obtain ⟨Q, hQ⟩ : ∃ Q, Q = (List.range (q + 1)).map F := ⟨_, rfl⟩
            rw [← hQ] at hs
            have HS := Lib.hid hs
            have HQ := Lib.hid hQ
            have HO2 := Lib.hid ((HO.out.below b6).below b7)
            have HB2 := Lib.hid ((HBW.out.trans (b6.mono HBW.out.size)).trans (b7.mono (Nat.le_trans HBW.out.size b6.size)))
            clear ho6 hc6 b6 b7 hfq hP hQ hs HO
            go_wp2_with (at_builtin; refine wpList_append_e (E := lineE) (Z := fun b => Z b ∨ wi.heap.size ≤ b) rfl (.tmp 46) (.tmp 51) 22 rfl (.agg #[.slice none 0 0, .bool false]) 32 Tryd.underlying22 info_line rfl (by decide) rfl rfl HO2.out HX.out (by simp only [List.length_singleton]; omega) (by simp only [List.length_singleton]; omega) HB2.out.size ?_)
            intro v3 w8 ho3 hb3 _ _
            rw [← HS.out, HQ.out] at ho3
            have H2 := Lib.hid ho3
            have H3 := Lib.hid (HB2.out.trans hb3)
            clear ho3 hb3
            go_wp2
            go_roundw
            case rel => exact ⟨q + 1, by omega, by go_num, H2.out, H3.out⟩
            case measure => simp [intOf] <;> omega
          · have l1 : decide ((q : Int) < (m : Int)) = false := by rw [decide_eq_false_iff_not]; omega
            have l2 : decide (q < m) = false := by rw [decide_eq_false_iff_not]; omega
            have hnl : (LD.getD q zl).1 = [] := by
              simp only [List.getD]
              rw [List.getElem?_eq_none (by rw [HLN.out]; omega)]
              rfl
            have hrz := rresize_any (fun b => Z b ∨ wq.heap.size ≤ b) (.slice none 0 0) (LD.getD q zl).1 (nw : Int) wq (fun b h => .inr h) (by rw [hnl]; exact HeldE.nil _ _ _) (by rw [hnl]; rfl)
            rw [show rowN (nw : Int) = nw from by unfold rowN; omega] at hrz
            have HRZ := Lib.hid hrz
            clear hrz hnl
            go_wp2_with fail
            refine HRZ.out.mono ?_
            rintro e w6 ⟨v6, rfl, ho6, b6⟩
            have hc6 := ho6.held (fun b h1 _ => .inr h1)
            obtain ⟨so, sc, ev6⟩ := hc6.len
            rw [rsz_len] at ev6
            subst ev6
            have b7 := (Below.refl w6.heap.size w6).alloc (Nat.le_refl _) (.cells [Value.slice so nw sc, .bool false].toArray 56)
            have hfq : F q = (rszL (LD.getD q zl).1 nw, false) := by rw [HF.out]
            have HX := Lib.hid (show HeldE lineE (fun b => (Z b ∨ wi.heap.size ≤ b) ∧ t.ownBlock ≠ some b) (w6.alloc (.cells [Value.slice so nw sc, .bool false].toArray 56)) (.slice (some ⟨w6.heap.size, 0, none⟩) 1 1) [F q] from by
              rw [hfq]
              exact heldE_one (Y := fun b => Z b ∨ wq.heap.size ≤ b) [Value.slice so nw sc, .bool false] (rszL (LD.getD q zl).1 nw, false) (line_rep.2 ⟨_, rfl, hc6⟩) (fun b hb e => ⟨by
                rcases e with e | e
                · exact .inl e
                · exact .inr (Nat.le_trans hww e), fun e2 => by
                have h1 := HLO.out _ e2
                have h2 := HRB.out
                rcases e with e | e
                · have := HZ.out b e; omega
                · omega⟩) ⟨.inr (Nat.le_trans hww b6.size), fun e2 => by have := (HLO.out _ e2).2; have := b6.size; omega⟩)
            have hs : (List.range (q + 1)).map F = (List.range q).map F ++ [F q] := by rw [List.range_succ, List.map_append]; rfl
            obtain ⟨P0, hP⟩ : ∃ P0, P0 = (List.range q).map F := ⟨_, rfl⟩
            have hpl : P0.length ≤ 1024 := by rw [hP, List.length_map, List.length_range]; omega
            rw [← hP] at HO hs
            obtain ⟨Q, hQ⟩ : ∃ Q, Q = (List.range (q + 1)).map F := ⟨_, rfl⟩
            rw [← hQ] at hs
            have HS := Lib.hid hs
            have HQ := Lib.hid hQ
            have HO2 := Lib.hid ((HO.out.below b6).below b7)
            have HB2 := Lib.hid ((HBW.out.trans (b6.mono HBW.out.size)).trans (b7.mono (Nat.le_trans HBW.out.size b6.size)))
            clear ho6 hc6 b6 b7 hfq hP hQ hs HO
            go_wp2_with (at_builtin; refine wpList_append_e (E := lineE) (Z := fun b => Z b ∨ wi.heap.size ≤ b) rfl (.tmp 46) (.tmp 51) 22 rfl (.agg #[.slice none 0 0, .bool false]) 32 Tryd.underlying22 info_line rfl (by decide) rfl rfl HO2.out HX.out (by simp only [List.length_singleton]; omega) (by simp only [List.length_singleton]; omega) HB2.out.size ?_)
            intro v3 w8 ho3 hb3 _ _
            rw [← HS.out, HQ.out] at ho3
            have H2 := Lib.hid ho3
            have H3 := Lib.hid (HB2.out.trans hb3)
            clear ho3 hb3
            go_wp2
            go_roundw
            case rel => exact ⟨q + 1, by omega, by go_num, H2.out, H3.out⟩
            case measure => simp [intOf] <;> omega
        · obtain rfl : q = nh := by omega
          have j1 : decide ((q : Int) < (q : Int)) = false := by rw [decide_eq_false_iff_not]; omega
          have hb5 := HB.out.below HBW.out HB.out.lt
          have hr5 := HR.out.below HBW.out HR.out.lt
          have hc5 := HC.out.below HBW.out HC.out.lt
          have hl5 := HLX.out.trans (HBW.out.mono HLX.out.size)
          obtain ⟨ta, tk, et⟩ := (HO.out.held (Z := fun b => Z b ∨ wi.heap.size ≤ b) (fun b h1 _ => .inr h1)).len
          subst et
          rw [List.length_map, List.length_range] at HO ⊢
          have y0 := hc5.cell 0 _ rfl
          have y1 := hc5.cell 1 _ rfl
          have y4 := hb5.cell 4 _ rfl
          have k0 := hr5.cell 0 _ rfl
          have k1 := hr5.cell 1 _ rfl
          have k2 := hr5.cell 2 _ rfl
          have k3 := hr5.cell 3 _ rfl
          have k4 := hr5.cell 4 _ rfl
          have g0 := hr5.free 0
          have g1 := hr5.free 1
          have g2' := hr5.free 2
          have g3 := hr5.free 3
          have g4 := hr5.free 4
          have hlt5 := hr5.lt
          obtain ⟨nc, hnc⟩ : ∃ nc, nc = min c2 (nw - 1) := ⟨_, rfl⟩
          have HNC := Lib.hid hnc
          have hwn : IntKind.i64.wrap ((nw : Int) - 1) = (nw : Int) - 1 := by rw [IntKind.wrap_i64]; omega
          have hmc : min (c2 : Int) ((nw : Int) - 1) = (nc : Int) := by omega
          have hbl := pres (g := bx + 1) hl5 (by have := HBX.out; omega) (.slice ta q tk) (.int .i64 rd) (.int .i64 nc) (.bool false) (.bool au)
          have hue := (((((Upd.refl (fun x => x = bx + 1) wq).setCell (p := ⟨bx + 1, 0, none⟩) (.inl rfl) (.slice ta q tk)).setCell (p := ⟨bx + 1, 1, none⟩) (.inl rfl) (.int .i64 rd)).setCell (p := ⟨bx + 1, 2, none⟩) (.inl rfl) (.int .i64 nc)).setCell (p := ⟨bx + 1, 3, none⟩) (.inl rfl) (.bool false)).setCell (p := ⟨bx + 1, 4, none⟩) (.inl rfl) (.bool au)
          have hlo := HO.out.lt
          have hoe := OwnE.upd HO.out hue (fun x hx e => by
            have h1 := HRB.out
            have h2 := HBX.out
            rcases hx with hx | hx
            · rcases hx with hx | hx
              · have := HZ.out x hx; omega
              · omega
            · have := (hlo _ hx).1; omega)
          have hhe := (hoe.held (fun b h1 _ => .inr h1)).zone (Y := fun x => Z x ∨ (w.heap.size ≤ x ∧ x < (((((wq.setCell ⟨bx + 1, 0, none⟩ (.slice ta q tk)).setCell ⟨bx + 1, 1, none⟩ (.int .i64 rd)).setCell ⟨bx + 1, 2, none⟩ (.int .i64 nc)).setCell ⟨bx + 1, 3, none⟩ (.bool false)).setCell ⟨bx + 1, 4, none⟩ (.bool au)).heap.size)) (fun x hx hz => by
            rcases hz with hz | hz
            · exact .inl hz
            · exact .inr ⟨Nat.le_trans HRB.out.2 hz, hx⟩)
          have HFF := Lib.hid (And.intro hhe hbl)
          have hfin : (List.range q).map F = (List.range q).map fun i => (rszL ((Ls.drop k).getD i zl).1 nw, false) := by rw [HF.out, HLD.out]
          rw [hfin] at HFF
          clear hhe hbl hue hoe hb5 hr5 hl5 hc5 hlo hfin hnc
          go_wp2
          refine bodyPost_ret (v := .agg #[.slice ta q tk, .int .i64 rd, .int .i64 nc, .bool false, .bool au]) (by simp [results, Tryd.results12, go_sem, k0, k1, k2, k3, k4]) rfl ?_
          rw [HRD.out, HNC.out] at HFF ⊢
          exact ⟨_, rfl, HFF.out.1, HFF.out.2⟩
end Go.Proofs.YtgndolgihplngaaDoor
