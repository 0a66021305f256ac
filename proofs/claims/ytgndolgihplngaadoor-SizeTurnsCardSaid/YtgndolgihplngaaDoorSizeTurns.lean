/- SizeTurns (39.1) answers true at all lines, cursors and sizes, and turns nothing. No condition. -/
import Derived.Test.YtgndolgihplngaaDoorMg10
import Derived.Test.YtgndolgihplngaaDoorSizR
import Derived.Test.YtgndolgihplngaaDoorMg7
import Derived.Test.YtgndolgihplngaaDoorMg1
import Derived.Test.YtgndolgihplngaaDoorCellS
import Derived.Test.YtgndolgihplngaaDoorCards
import Derived.Test.YtgndolgihplngaaDoorTie
import Derived.ProofKit
import Derived.Lib.MinMax
namespace Go.Proofs.YtgndolgihplngaaDoor.lawSizeTurns
open Go.ChangeShapes Go.WideShapes Go.ChangeAt Go.RowKit
set_option maxRecDepth 100000 in
set_option maxHeartbeats 16000000 in
theorem walkH (W : World) (va : Value) (Ls : List Ln) (P Q : Int) (S au : Bool) (lv : Value) (A : List (Int × Int)) (Z Y : Zone) (ha : HeldE lineE Z W va Ls) (hl : HeldE twoE Y W lv A) : Calls Tryd.prog 3 #[.agg #[va, .int .i64 P, .int .i64 Q, .bool S, .bool au], lv] W (Yes W) := by
  have hla := ha.max
  have ha := ha.lower
  obtain ⟨ao, ca, rfl⟩ := ha.len
  obtain ⟨n, hn⟩ : ∃ n, n = Ls.length := ⟨_, rfl⟩
  have HN := Lib.hid hn
  rw [← hn] at ha hla ⊢
  have HA := Lib.hid ha
  obtain ⟨lo, lc, rfl⟩ := hl.len
  obtain ⟨m, hm⟩ : ∃ m, m = A.length := ⟨_, rfl⟩
  have HMM := Lib.hid hm
  rw [← hm] at hl ⊢
  have HLA := Lib.hid hl.lower
  clear hl hm
  have HWR := Lib.hid (show ∀ w', Below W.heap.size W w' → Calls Tryd.prog 8 #[.slice ao n ca] w' (WrongTold w' Ls) from fun w' h => rlwrong_any _ _ Ls w' (HA.out.below h))
  have hb0 := (Below.refl W.heap.size W).alloc (Nat.le_refl _) (.cells [Value.slice ao n ca, .int .i64 P, .int .i64 Q, .bool S, .bool au].toArray 26)
  have hn0 := Has.new W [Value.slice ao n ca, .int .i64 P, .int .i64 Q, .bool S, .bool au] 26
  obtain ⟨W0, hW0⟩ : ∃ W0, W0 = W.alloc (.cells [Value.slice ao n ca, .int .i64 P, .int .i64 Q, .bool S, .bool au].toArray 26) := ⟨_, rfl⟩
  rw [← hW0] at hb0 hn0
  have hW0' : W0 = W.alloc (.cells #[Value.slice ao n ca, .int .i64 P, .int .i64 Q, .bool S, .bool au] 26) := hW0
  obtain ⟨gx, hgx⟩ : ∃ gx, gx = W.heap.size := ⟨_, rfl⟩
  have HGX := Lib.hid hgx
  rw [← hgx] at hn0
  have HB0 := Lib.hid hb0
  have HX0 := Lib.hid hn0
  clear ha hn hb0 hn0 hW0 hgx
  go_enter Tryd.func3, Tryd.ntmps3
  go_upto_region 1 with (fail)
  rw [← hW0', ← HGX.out]
  clear hW0'
  have x0 := HX0.out.cell 0 _ rfl
  go_wp2_with fail
  refine (HWR.out W0 HB0.out).mono ?_
  rintro e w0 hq
  obtain ⟨at_, acc, rfl, hat, b0⟩ := hq.say
  clear hq
  have HA0 := Lib.hid hat
  have B2 := Lib.hid (HB0.out.trans (b0.mono HB0.out.size))
  have HX1 := Lib.hid (HX0.out.below b0 HX0.out.lt)
  clear b0 hat x0 HX0
  go_wp2_with fail
  refine (works39_any _).mono ?_
  rintro e w2 ⟨rfl, b2⟩
  have B3 := Lib.hid (B2.out.trans (b2.mono B2.out.size))
  have HX2 := Lib.hid (HX1.out.below b2 HX1.out.lt)
  have d1 := HX2.out.cell 0 _ rfl
  clear b2 HX1 B2
  by_cases h1 : 20 < n
  · have hd : decide ((20 : Int) < n) = true := by rw [decide_eq_true_eq]; omega
    have hdn : decide (20 < n) = true := by rw [decide_eq_true_eq]; omega
    go_wp2_with fail
    refine (works39_any _).mono ?_
    rintro e w3 ⟨rfl, b3⟩
    have BB := B3.out.trans (b3.mono B3.out.size)
    go_wp2
    go_ret
    exact ⟨(ret_eq (by first | rfl | (simp <;> omega))), BB⟩

  have hd20 : decide ((20 : Int) < n) = false := by rw [decide_eq_false_iff_not]; omega
  have hd20n : decide (20 < n) = false := by rw [decide_eq_false_iff_not]; omega
  by_cases h0 : n = 0
  · have hz : ((n : Int) == 0) = true := by rw [beq_iff_eq]; omega
    clear h0 h1
    go_wp2_with fail
    refine (works39_any _).mono ?_
    rintro e w3 ⟨rfl, b3⟩
    have BB := B3.out.trans (b3.mono B3.out.size)
    go_wp2
    go_ret
    exact ⟨(ret_eq (by first | rfl | (simp <;> omega))), BB⟩

  have hz : ((n : Int) == 0) = false := by rw [beq_eq_false_iff_ne]; omega
  by_cases hall : AllGood Ls
  rotate_left
  · have hge : decide ((0 : Int) ≤ at_) = true := by rw [decide_eq_true_eq]; rcases HA0.out with h | h; exact absurd h.1 hall; exact h.1
    go_wp2_with fail
    refine (works39_any _).mono ?_
    rintro e w3 ⟨rfl, b3⟩
    have BB := B3.out.trans (b3.mono B3.out.size)
    go_wp2
    go_ret
    exact ⟨(ret_eq (by first | rfl | (simp <;> omega))), BB⟩

  obtain rfl : at_ = -1 := by rcases HA0.out with h | h; exact h.2; exact absurd hall h.2
  by_cases hm8 : 8 < m
  · have hd8 : decide ((8 : Int) < m) = true := by rw [decide_eq_true_eq]; omega
    have hd8n : decide (8 < m) = true := by rw [decide_eq_true_eq]; omega
    go_wp2_with fail
    refine (works39_any _).mono ?_
    rintro e w3 ⟨rfl, b3⟩
    have BB := B3.out.trans (b3.mono B3.out.size)
    go_wp2
    go_ret
    exact ⟨(ret_eq (by first | rfl | (simp <;> omega))), BB⟩

  have hd8 : decide ((8 : Int) < m) = false := by rw [decide_eq_false_iff_not]; omega
  have hd8n : decide (8 < m) = false := by rw [decide_eq_false_iff_not]; omega
  have HALL := Lib.hid hall
  have hg := gof_good _ _ Ls w2 HALL.out (HA.out.below B3.out) (by rw [← HN.out]; omega) (by rw [← HN.out]; omega)
  have HG := Lib.hid hg
  clear hall hg HA0 HWR
  go_wp2_with fail
  refine HG.out.mono ?_
  rintro e w3 ⟨gg, gr, Rs, rfl, hg3, hm3, b3⟩
  have hb4 := (Below.refl w3.heap.size w3).alloc (Nat.le_refl _) (.cells [Value.pointer (some ⟨gg, 0, none⟩), .int .i64 P, .int .i64 Q, .bool S, .bool au].toArray 38)
  have hn4 := Has.new w3 [Value.pointer (some ⟨gg, 0, none⟩), .int .i64 P, .int .i64 Q, .bool S, .bool au] 38
  obtain ⟨W4, hW4⟩ : ∃ W4, W4 = w3.alloc (.cells [Value.pointer (some ⟨gg, 0, none⟩), .int .i64 P, .int .i64 Q, .bool S, .bool au].toArray 38) := ⟨_, rfl⟩
  rw [← hW4] at hb4 hn4
  obtain ⟨gp, hgp⟩ : ∃ gp, gp = w3.heap.size := ⟨_, rfl⟩
  rw [← hgp] at hn4
  obtain ⟨wd, hwd⟩ : ∃ wd, wd = firstN Ls := ⟨_, rfl⟩
  rw [← hwd] at hg3
  obtain ⟨BP, hBP⟩ : ∃ BP, BP = w2.heap.size := ⟨_, rfl⟩
  have hpa : PenAt W4 BP gp gg gr wd Rs Ls P Q S au := ⟨hn4, by rw [hBP, hgp]; exact b3.size, by rw [hBP]; exact hg3.below hb4, hm3⟩
  have HW4 := Lib.hid (show W4 = w3.alloc (.cells #[Value.pointer (some ⟨gg, 0, none⟩), .int .i64 P, .int .i64 Q, .bool S, .bool au] 38) from hW4)
  have HGP := Lib.hid hgp
  have HP4 := Lib.hid hpa
  have HBP := Lib.hid (show W.heap.size ≤ BP from by rw [hBP]; exact B3.out.size)
  have HX4 := Lib.hid ((HX2.out.below b3 HX2.out.lt).below hb4 (Nat.lt_of_lt_of_le HX2.out.lt b3.size))
  have B4 := Lib.hid ((B3.out.trans (b3.mono B3.out.size)).trans (hb4.mono (Nat.le_trans B3.out.size b3.size)))
  have h73 := HX2.out.below b3 HX2.out.lt
  have z1 := h73.cell 1 _ rfl
  have z2 := h73.cell 2 _ rfl
  have z3 := h73.cell 3 _ rfl
  have z4 := h73.cell 4 _ rfl
  have hb6 := (Below.refl W4.heap.size W4).alloc (Nat.le_refl _) (.cells [Value.slice ao n ca, .int .i64 P, .int .i64 Q, .bool S, .bool au].toArray 39)
  have hn6 := Has.new W4 [Value.slice ao n ca, .int .i64 P, .int .i64 Q, .bool S, .bool au] 39
  obtain ⟨W6, hW6⟩ : ∃ W6, W6 = W4.alloc (.cells [Value.slice ao n ca, .int .i64 P, .int .i64 Q, .bool S, .bool au].toArray 39) := ⟨_, rfl⟩
  rw [← hW6] at hb6 hn6
  obtain ⟨b8, hb8⟩ : ∃ b8, b8 = W4.heap.size := ⟨_, rfl⟩
  rw [← hb8] at hn6
  have HW6 := Lib.hid (show W6 = W4.alloc (.cells #[Value.slice ao n ca, .int .i64 P, .int .i64 Q, .bool S, .bool au] 39) from hW6)
  have HB8 := Lib.hid hb8
  have HWB8 := Lib.hid (show W.heap.size ≤ b8 from by rw [hb8]; exact B4.out.size)
  have HWB := HBP
  have HQ0 := Lib.hid (show QAt W BP gp gg gr wd b8 Rs Ls P Q S au Ls P Q S au ao ca W6 from by
    have hp6 := hpa.below hb6
    have hB6 : BP ≤ W6.heap.size := Nat.le_trans hpa.2.1 (Nat.le_trans (Nat.le_of_lt hpa.lt) hb6.size)
    refine ⟨hp6, by rw [← HN.out]; exact hn6, ?_, B4.out.trans (hb6.mono B4.out.size)⟩
    rw [← HN.out]
    exact (((HA.out.zone (Y := fun x => x < W.heap.size) (fun x hx _ => hx)).below B4.out).below hb6).zone (fun x _ hz => ⟨fun e => by have := pz_ge hp6 hB6 x e; have := HBP.out; omega, by have := HWB8.out; omega⟩))
  clear hb6 hn6 hW6 hb8 hpa hW4 hgp hwd hBP hb4 hn4 hg3 hm3 b3 h73 HG
  go_upto_region 8 with (fail)
  rw [← HW4.out, ← HGP.out]
  clear z1 z2 z3 z4 d1
  have y0 := HX4.out.cell 0 _ rfl
  have y1 := HX4.out.cell 1 _ rfl
  have y2 := HX4.out.cell 2 _ rfl
  have y3 := HX4.out.cell 3 _ rfl
  have y4 := HX4.out.cell 4 _ rfl
  go_upto_region 9 with (fail)
  rw [← HW6.out, ← HB8.out]
  clear y0 y1 y2 y3 y4
  go_wp2
  go_loopw [11] (fun iv wr => ∃ (i gg gr wd : Nat) (R : List Rw) (Lx : List Ln) (r c : Int) (pd : Bool) (o : Option Addr) (k : Nat), i ≤ m ∧ iv = .int .i64 i ∧ QAt W BP gp gg gr wd b8 R Lx r c pd au Lx r c pd au o k wr) (fun iv _ => m - (intOf iv).toNat)
  case atStart => exact ⟨0, gg, gr, wd, Rs, Ls, P, Q, S, ao, ca, Nat.zero_le _, rfl, HQ0.out⟩
  case round =>
    clear HQ0 HX4 HP4
    obtain ⟨i, gg, gr, wd, R, Lx, r, c, pd, o, k, hi, rfl, hq⟩ := hrel
    obtain ⟨wq, hwq⟩ : ∃ wq, wq = wr := ⟨_, rfl⟩
    subst hwq
    have HQ := Lib.hid hq
    by_cases hlt : i < m
    · have j1 : decide ((i : Int) < (m : Int)) = true := by rw [decide_eq_true_eq]; omega
      have j2 : decide (i < m) = true := by rw [decide_eq_true_eq]; omega
      have hii : (i : Int) < (m : Int) := by omega
      have hwj : IntKind.i64.wrap ((i : Int) + 1) = (i : Int) + 1 := by rw [IntKind.wrap_i64]; omega
      obtain ⟨bl, ol, rfl, hbl, c0, c1⟩ := (twos_at HLA.out).2.2 i (by rw [← HMM.out]; exact hlt)
      obtain ⟨⟨a, b⟩, hab⟩ : ∃ y, y = A.getD i (0, 0) := ⟨_, rfl⟩
      rw [← hab] at c0 c1
      simp only at c0 c1
      have HL0 := Lib.hid c0
      have HL1 := Lib.hid c1
      have HBL := Lib.hid hbl
      have z0 := (hq.2.2.2.cell (p := ⟨bl, ol + i * 2, none⟩) hbl).trans c0
      have z1 := (hq.2.2.2.cell (p := ⟨bl, ol + i * 2 + 1, none⟩) hbl).trans c1
      have hs := hq.1.sizes
      obtain ⟨r2, hr2, hlr⟩ := in_nat r hs.1 hs.2.1
      obtain ⟨c2, hc2, hlc⟩ := in_nat c hs.2.2.1 hs.2.2.2.1
      have HR2 := Lib.hid hr2
      have HC2 := Lib.hid hc2
      have HLR := Lib.hid hlr
      have HLC := Lib.hid hlc
      have HS0 := Lib.hid (show 0 < Lx.length ∧ Lx.length ≤ 1024 ∧ (Lx.getD 0 zl).1.length = wd ∧ wd ≤ 1024 from ⟨hs.1, hs.2.1, hs.2.2.2.2.2 0 hs.1, hs.2.2.2.1⟩)
      have HSD := Lib.hid (show ∀ j, j < Lx.length → soundB (Lx.getD j zl).1 = true from fun j hj => by
        have hr := hq.1.2.2.1.row (i := j) (by rw [hs.2.2.2.2.1]; exact hj)
        rw [← (row_line hq.1.2.2.2 j (by rw [hs.2.2.2.2.1]; exact hj)).1]
        exact hr.len.2.2)
      clear hq hr2 hc2 hlr hlc hs c0 c1 hab hbl
      by_cases ha2 : 200 < a
      · by_cases hb2 : 200 < b
        · have t1 : decide ((200 : Int) < a) = true := by rw [decide_eq_true_eq]; exact ha2
          have t2 : decide ((200 : Int) < b) = true := by rw [decide_eq_true_eq]; exact hb2
          have HF := Lib.hid HQ.out.2.2.2
          go_wp2
          go_ret
          exact ⟨(ret_eq (by first | rfl | (simp <;> omega))), HF.out⟩
        ·
          have t1 : decide ((200 : Int) < a) = true := by rw [decide_eq_true_eq]; exact ha2
          have t2 : decide ((200 : Int) < b) = false := by rw [decide_eq_false_iff_not]; exact hb2
          clear ha2 hb2
          obtain ⟨nw, hnw⟩ : ∃ nw, rowN a = nw := ⟨_, rfl⟩
          obtain ⟨nh, hnh⟩ : ∃ nh, rowN b = nh := ⟨_, rfl⟩
          obtain ⟨LP, hLP⟩ : ∃ LP, LP = szL Lx nw nh (r2 + 1 - nh) (min nh (Lx.length - (r2 + 1 - nh))) := ⟨_, rfl⟩
          obtain ⟨rr, hrr⟩ : ∃ rr, rr = r2 - (r2 + 1 - nh) := ⟨_, rfl⟩
          obtain ⟨cc, hcc⟩ : ∃ cc, cc = min c2 (nw - 1) := ⟨_, rfl⟩
          have HPS := Lib.hid (fun w' h1 h2 => psize_full BP gp gg gr wd R Lx r c pd au a b w' h1 h2 r2 c2 HR2.out HC2.out HLR.out HLC.out nw nh hnw hnh)
          have HRS := Lib.hid (fun Zq w' h1 h2 => rsize_any Zq (.slice o Lx.length k) Lx r c pd au a b w' h1 h2 HS0.out.1 HS0.out.2.1 wd HS0.out.2.2.1 HS0.out.2.2.2 HSD.out r2 c2 HR2.out HC2.out HLR.out HLC.out nw nh hnw hnh)
          rw [← hLP, ← hrr, ← hcc] at HPS HRS
          obtain ⟨nl, hnl⟩ : ∃ nl, nl = Lx.length := ⟨_, rfl⟩
          have HNL := Lib.hid hnl
          clear hnw hnh hLP hrr hcc hnl
          go_upto_region 14 with (fail)
          obtain ⟨Erg, hErg⟩ : ∃ EE : Nat → Value → World → Prop, EE = fun jj xx ww => match jj with
              | 0 => xx = .pointer (some ⟨gp, 0, none⟩)
              | 1 => xx = .slice (some ⟨bl, ol, none⟩) m lc
              | 2 => xx = .int .i64 i
              | 3 => xx = .pointer (some ⟨bl, ol + i * 2, none⟩)
              | 4 => xx = .pointer (some ⟨bl, ol + i * 2, none⟩)
              | 5 => xx = .int .i64 a
              | 6 => xx = .slice (some ⟨bl, ol, none⟩) m lc
              | 7 => xx = .int .i64 i
              | 8 => xx = .pointer (some ⟨bl, ol + i * 2, none⟩)
              | 9 => xx = .pointer (some ⟨bl, ol + i * 2 + 1, none⟩)
              | 10 => xx = .int .i64 b
              | 11 => xx = .tuple #[]
              | _ => True := ⟨_, rfl⟩
          have erg0 : ∀ xx ww, Erg 0 xx ww = (xx = .pointer (some ⟨gp, 0, none⟩)) := fun xx ww => congrFun (congrFun (congrFun hErg 0) xx) ww
          have erg1 : ∀ xx ww, Erg 1 xx ww = (xx = .slice (some ⟨bl, ol, none⟩) m lc) := fun xx ww => congrFun (congrFun (congrFun hErg 1) xx) ww
          have erg2 : ∀ xx ww, Erg 2 xx ww = (xx = .int .i64 i) := fun xx ww => congrFun (congrFun (congrFun hErg 2) xx) ww
          have erg3 : ∀ xx ww, Erg 3 xx ww = (xx = .pointer (some ⟨bl, ol + i * 2, none⟩)) := fun xx ww => congrFun (congrFun (congrFun hErg 3) xx) ww
          have erg4 : ∀ xx ww, Erg 4 xx ww = (xx = .pointer (some ⟨bl, ol + i * 2, none⟩)) := fun xx ww => congrFun (congrFun (congrFun hErg 4) xx) ww
          have erg5 : ∀ xx ww, Erg 5 xx ww = (xx = .int .i64 a) := fun xx ww => congrFun (congrFun (congrFun hErg 5) xx) ww
          have erg6 : ∀ xx ww, Erg 6 xx ww = (xx = .slice (some ⟨bl, ol, none⟩) m lc) := fun xx ww => congrFun (congrFun (congrFun hErg 6) xx) ww
          have erg7 : ∀ xx ww, Erg 7 xx ww = (xx = .int .i64 i) := fun xx ww => congrFun (congrFun (congrFun hErg 7) xx) ww
          have erg8 : ∀ xx ww, Erg 8 xx ww = (xx = .pointer (some ⟨bl, ol + i * 2, none⟩)) := fun xx ww => congrFun (congrFun (congrFun hErg 8) xx) ww
          have erg9 : ∀ xx ww, Erg 9 xx ww = (xx = .pointer (some ⟨bl, ol + i * 2 + 1, none⟩)) := fun xx ww => congrFun (congrFun (congrFun hErg 9) xx) ww
          have erg10 : ∀ xx ww, Erg 10 xx ww = (xx = .int .i64 b) := fun xx ww => congrFun (congrFun (congrFun hErg 10) xx) ww
          have erg11 : ∀ xx ww, Erg 11 xx ww = (xx = .tuple #[]) := fun xx ww => congrFun (congrFun (congrFun hErg 11) xx) ww
          obtain ⟨Crg, hCrg⟩ : ∃ CC : Array Bool → World → Prop, CC = fun L8 w' => Below W.heap.size W w' ∧ (Mix.one L8 11 = 0 → QAt W BP gp gg gr wd b8 R Lx r c pd au Lx r c pd au o k w') ∧ (Mix.one L8 11 = 1 → ∃ gg2 gr2 R2, QAt W BP gp gg2 gr2 nw b8 R2 LP rr cc false au Lx r c pd au o k w') := ⟨_, rfl⟩
          have krg : ∀ i L w, i ≠ 11 →  Crg L w → Crg (L.setIfInBounds i true) w := by
            intro i L w q11 h
            rw [hCrg] at h ⊢
            simp only [Mix.one_ne q11]; exact h
          obtain ⟨Xrg, hXrg⟩ : ∃ XX : World → World → Prop, XX = fun _ _ => True := ⟨_, rfl⟩
          have xrg : ∀ w, Xrg w w := fun w => by rw [hXrg]; exact trivial
          have strg : ∀ j x w w1, Xrg w w1 → Erg j x w → Erg j x w1 := by
            intro j x w w1 hx h
            rw [hXrg] at hx
            match j with
            | 0 => rw [erg0] at h ⊢; exact h
            | 1 => rw [erg1] at h ⊢; exact h
            | 2 => rw [erg2] at h ⊢; exact h
            | 3 => rw [erg3] at h ⊢; exact h
            | 4 => rw [erg4] at h ⊢; exact h
            | 5 => rw [erg5] at h ⊢; exact h
            | 6 => rw [erg6] at h ⊢; exact h
            | 7 => rw [erg7] at h ⊢; exact h
            | 8 => rw [erg8] at h ⊢; exact h
            | 9 => rw [erg9] at h ⊢; exact h
            | 10 => rw [erg10] at h ⊢; exact h
            | 11 => rw [erg11] at h ⊢; exact h
            | j + 12 => rw [hErg]; trivial
          have crg : Crg (Array.replicate 12 false) wq.drew := by rw [hCrg]; exact ⟨HQ.out.2.2.2.trans ((Below.refl wq.heap.size wq).drew.mono HQ.out.2.2.2.size), fun _ => HQ.out.below (Below.refl _ _).drew, fun e => absurd e (by decide)⟩
          have brg : ∀ L w w1, Crg L w → Below w.heap.size w w1 → Crg L w1 := by
            intro L w w1 h hb
            rw [hCrg] at h ⊢
            (obtain ⟨q1, q2, q3⟩ := h; exact ⟨q1.trans (hb.mono q1.size), fun e => (q2 e).below hb, fun e => by obtain ⟨a1, a2, a3, h1⟩ := q3 e; exact ⟨a1, a2, a3, h1.below hb⟩⟩)
          have xbrg : ∀ w w1, Below w.heap.size w w1 → Xrg w w1 := by
            intro w w1 hb
            rw [hXrg]
            trivial
          have Hrgb := Lib.hid brg
          have Hrgxb := Lib.hid xbrg
          clear brg xbrg
          clear hErg
          have Hrgk := Lib.hid krg
          have Hrgx := Lib.hid xrg
          have Hrgst := Lib.hid strg
          have Hrgc := Lib.hid crg
          have HrghC := Lib.hid hCrg
          have HrghX := Lib.hid hXrg
          have Hrge0 := Lib.hid erg0
          have Hrge1 := Lib.hid erg1
          have Hrge2 := Lib.hid erg2
          have Hrge3 := Lib.hid erg3
          have Hrge4 := Lib.hid erg4
          have Hrge5 := Lib.hid erg5
          have Hrge6 := Lib.hid erg6
          have Hrge7 := Lib.hid erg7
          have Hrge8 := Lib.hid erg8
          have Hrge9 := Lib.hid erg9
          have Hrge10 := Lib.hid erg10
          have Hrge11 := Lib.hid erg11
          clear krg xrg strg crg hCrg hXrg erg0 erg1 erg2 erg3 erg4 erg5 erg6 erg7 erg8 erg9 erg10 erg11
          go_wp2_with fail
          refine Reg.regionF Erg Crg Xrg Hrgst.out (by kernel_rfl) (by kernel_rfl) (by kernel_rfl) Hrgc.out (fun Frg hFrg => ?_)
          simp only [Reg.frame, Reg.dsts, List.map_cons, List.map_nil, Mix.put_lit, List.set_cons_succ, List.set_cons_zero, Nat.zero_add, Nat.reduceAdd] at hFrg
          refine ⟨?_, ?_⟩
          · refine ⟨?_, ?_, ?_, ?_, ?_, ?_, ?_, ?_, ?_, ?_, ?_, ?_, trivial⟩
            · intro Lq wq xq hh
              simp only [hFrg]
              refine .inl ⟨rfl, ?_⟩
              unfold Reg.upon
              have hk := Hrgk.out 0 Lq wq (by decide)  hh.cls
              have hx := Hrgx.out wq
              have he : Erg 0 (.pointer (some ⟨gp, 0, none⟩)) wq := by rw [Hrge0.out]
              have HK := Lib.hid (And.intro hk (And.intro he hx))
              clear hk hx he
              go_simp
              exact HK.out
            · intro Lq wq xq hh
              simp only [hFrg]
              refine .inl ⟨rfl, ?_⟩
              unfold Reg.upon
              have hk := Hrgk.out 1 Lq wq (by decide)  hh.cls
              have hx := Hrgx.out wq
              have he : Erg 1 (.slice (some ⟨bl, ol, none⟩) m lc) wq := by rw [Hrge1.out]
              have HK := Lib.hid (And.intro hk (And.intro he hx))
              clear hk hx he
              go_simp
              exact HK.out
            · intro Lq wq xq hh
              simp only [hFrg]
              refine .inl ⟨rfl, ?_⟩
              unfold Reg.upon
              have hk := Hrgk.out 2 Lq wq (by decide)  hh.cls
              have hx := Hrgx.out wq
              have he : Erg 2 (.int .i64 i) wq := by rw [Hrge2.out]
              have HK := Lib.hid (And.intro hk (And.intro he hx))
              clear hk hx he
              go_simp
              exact HK.out
            · intro Lq wq xq hh
              have d1 : Erg 1 (xq 1) wq := hh.val 1 (by kernel_rfl) (by kernel_rfl)
              rw [Hrge1.out] at d1
              have d2 : Erg 2 (xq 2) wq := hh.val 2 (by kernel_rfl) (by kernel_rfl)
              rw [Hrge2.out] at d2
              simp only [hFrg, d1, d2]
              clear d1 d2
              refine .inl ⟨rfl, ?_⟩
              unfold Reg.upon
              have hk := Hrgk.out 3 Lq wq (by decide)  hh.cls
              have hx := Hrgx.out wq
              have he : Erg 3 (.pointer (some ⟨bl, ol + i * 2, none⟩)) wq := by rw [Hrge3.out]
              have HK := Lib.hid (And.intro hk (And.intro he hx))
              clear hk hx he
              go_simp
              exact HK.out
            · intro Lq wq xq hh
              have d3 : Erg 3 (xq 3) wq := hh.val 3 (by kernel_rfl) (by kernel_rfl)
              rw [Hrge3.out] at d3
              simp only [hFrg, d3]
              clear d3
              refine .inl ⟨rfl, ?_⟩
              unfold Reg.upon
              have hk := Hrgk.out 4 Lq wq (by decide)  hh.cls
              have hx := Hrgx.out wq
              have he : Erg 4 (.pointer (some ⟨bl, ol + i * 2, none⟩)) wq := by rw [Hrge4.out]
              have HK := Lib.hid (And.intro hk (And.intro he hx))
              clear hk hx he
              go_simp
              exact HK.out
            · intro Lq wq xq hh
              have d4 : Erg 4 (xq 4) wq := hh.val 4 (by kernel_rfl) (by kernel_rfl)
              rw [Hrge4.out] at d4
              simp only [hFrg, d4]
              clear d4
              refine .inl ⟨rfl, ?_⟩
              unfold Reg.upon
              have hc : Crg Lq wq := hh.cls
              rw [HrghC.out] at hc
              have y0 := (hc.1.cell (p := ⟨bl, ol + i * 2, none⟩) HBL.out).trans HL0.out
              clear hc
              have hk := Hrgk.out 5 Lq wq (by decide)  hh.cls
              have hx := Hrgx.out wq
              have he : Erg 5 (.int .i64 a) wq := by rw [Hrge5.out]
              have HK := Lib.hid (And.intro hk (And.intro he hx))
              clear hk hx he
              go_simp
              exact HK.out
            · intro Lq wq xq hh
              simp only [hFrg]
              refine .inl ⟨rfl, ?_⟩
              unfold Reg.upon
              have hk := Hrgk.out 6 Lq wq (by decide)  hh.cls
              have hx := Hrgx.out wq
              have he : Erg 6 (.slice (some ⟨bl, ol, none⟩) m lc) wq := by rw [Hrge6.out]
              have HK := Lib.hid (And.intro hk (And.intro he hx))
              clear hk hx he
              go_simp
              exact HK.out
            · intro Lq wq xq hh
              simp only [hFrg]
              refine .inl ⟨rfl, ?_⟩
              unfold Reg.upon
              have hk := Hrgk.out 7 Lq wq (by decide)  hh.cls
              have hx := Hrgx.out wq
              have he : Erg 7 (.int .i64 i) wq := by rw [Hrge7.out]
              have HK := Lib.hid (And.intro hk (And.intro he hx))
              clear hk hx he
              go_simp
              exact HK.out
            · intro Lq wq xq hh
              have d6 : Erg 6 (xq 6) wq := hh.val 6 (by kernel_rfl) (by kernel_rfl)
              rw [Hrge6.out] at d6
              have d7 : Erg 7 (xq 7) wq := hh.val 7 (by kernel_rfl) (by kernel_rfl)
              rw [Hrge7.out] at d7
              simp only [hFrg, d6, d7]
              clear d6 d7
              refine .inl ⟨rfl, ?_⟩
              unfold Reg.upon
              have hk := Hrgk.out 8 Lq wq (by decide)  hh.cls
              have hx := Hrgx.out wq
              have he : Erg 8 (.pointer (some ⟨bl, ol + i * 2, none⟩)) wq := by rw [Hrge8.out]
              have HK := Lib.hid (And.intro hk (And.intro he hx))
              clear hk hx he
              go_simp
              exact HK.out
            · intro Lq wq xq hh
              have d8 : Erg 8 (xq 8) wq := hh.val 8 (by kernel_rfl) (by kernel_rfl)
              rw [Hrge8.out] at d8
              simp only [hFrg, d8]
              clear d8
              refine .inl ⟨rfl, ?_⟩
              unfold Reg.upon
              have hk := Hrgk.out 9 Lq wq (by decide)  hh.cls
              have hx := Hrgx.out wq
              have he : Erg 9 (.pointer (some ⟨bl, ol + i * 2 + 1, none⟩)) wq := by rw [Hrge9.out]
              have HK := Lib.hid (And.intro hk (And.intro he hx))
              clear hk hx he
              go_simp
              exact HK.out
            · intro Lq wq xq hh
              have d9 : Erg 9 (xq 9) wq := hh.val 9 (by kernel_rfl) (by kernel_rfl)
              rw [Hrge9.out] at d9
              simp only [hFrg, d9]
              clear d9
              refine .inl ⟨rfl, ?_⟩
              unfold Reg.upon
              have hc : Crg Lq wq := hh.cls
              rw [HrghC.out] at hc
              have y1 := (hc.1.cell (p := ⟨bl, ol + i * 2 + 1, none⟩) HBL.out).trans HL1.out
              clear hc
              have hk := Hrgk.out 10 Lq wq (by decide)  hh.cls
              have hx := Hrgx.out wq
              have he : Erg 10 (.int .i64 b) wq := by rw [Hrge10.out]
              have HK := Lib.hid (And.intro hk (And.intro he hx))
              clear hk hx he
              go_simp
              exact HK.out
            · intro Lq wq xq hh
              have d0 : Erg 0 (xq 0) wq := hh.val 0 (by kernel_rfl) (by kernel_rfl)
              rw [Hrge0.out] at d0
              have d5 : Erg 5 (xq 5) wq := hh.val 5 (by kernel_rfl) (by kernel_rfl)
              rw [Hrge5.out] at d5
              have d10 : Erg 10 (xq 10) wq := hh.val 10 (by kernel_rfl) (by kernel_rfl)
              rw [Hrge10.out] at d10
              simp only [hFrg, d0, d5, d10]
              clear d0 d5 d10
              refine .inl ⟨rfl, ?_⟩
              unfold Reg.upon
              have hc : Crg Lq wq := hh.cls
              rw [HrghC.out] at hc
              have hq := hc.2.1 hh.un
              go_simp
              refine (HPS.out wq hq.1 (Nat.le_trans hq.1.2.1 (Nat.le_of_lt hq.1.lt))).mono ?_
              rintro e w2 ⟨rfl, g2, gr2, R2, k1, k2, k3⟩
              have h9 := QAt.resize HWB.out hq k1 k2 k3
              have hF : Crg (Lq.setIfInBounds 11 true) w2 := by
                rw [HrghC.out]
                refine ⟨h9.2.2.2, fun e => ?_, fun _ => ⟨g2, gr2, R2, h9⟩⟩
                rw [Mix.one_set (by rw [hh.size]; decide)] at e
                exact absurd e (by decide)
              exact ⟨_, rfl, hF, (by rw [Hrge11.out]), (by rw [HrghX.out]; trivial)⟩
          intro xq wrg hcrg hvrg
          rw [HrghC.out] at hcrg
          simp only [hFrg]
          clear hvrg hFrg Hrgk Hrgx Hrgst Hrgc HrghC HrghX Hrgb Hrgxb Hrge0 Hrge1 Hrge2 Hrge3 Hrge4 Hrge5 Hrge6 Hrge7 Hrge8 Hrge9 Hrge10 Hrge11
          obtain ⟨_, _, hq9⟩ := hcrg
          obtain ⟨g2, gr2, R2, hq9⟩ := hq9 (by kernel_rfl)
          have HQ9 := Lib.hid hq9
          have z0 := (hq9.2.2.2.cell (p := ⟨bl, ol + i * 2, none⟩) HBL.out).trans HL0.out
          have z1 := (hq9.2.2.2.cell (p := ⟨bl, ol + i * 2 + 1, none⟩) HBL.out).trans HL1.out
          have e0 := ext_cell z0
          have e1 := ext_cell z1
          clear hq9 z0 z1 HPS
          go_upto_region 15 with (fail)
          refine wp_region_ext (by kernel_rfl) (by kernel_rfl) ?_
          repeat (go_big_quiet_step ((go_at_call 11; exact callx_same (psize_nil a b _))))
          refine wpQuiet_nil ?_
          intro _ hw'
          obtain ⟨u, hw''⟩ := hw'
          subst hw''
          obtain ⟨wx, hwx⟩ : ∃ wx, wx = ext wrg u := ⟨_, rfl⟩
          have HWX := Lib.hid hwx
          have HQX := Lib.hid (show QAt W BP gp g2 gr2 nw b8 R2 LP rr cc false au Lx r c pd au o k wx from by rw [hwx]; exact HQ9.out.below u.ok)
          clear hwx e0 e1
          go_upto_region 16 with (fail)
          rw [← HWX.out]
          clear HWX HQ9
          obtain ⟨n9, hn9⟩ : ∃ n9, n9 = LP.length := ⟨_, rfl⟩
          have HN9 := Lib.hid hn9
          clear hn9
          obtain ⟨Ergf, hErgf⟩ : ∃ EE : Nat → Value → World → Prop, EE = fun jj xx ww => match jj with
              | 0 => xx = .agg #[.slice o nl k, .int .i64 r, .int .i64 c, .bool pd, .bool au]
              | 1 => xx = .slice (some ⟨bl, ol, none⟩) m lc
              | 2 => xx = .int .i64 i
              | 3 => xx = .pointer (some ⟨bl, ol + i * 2, none⟩)
              | 4 => xx = .pointer (some ⟨bl, ol + i * 2, none⟩)
              | 5 => xx = .int .i64 a
              | 6 => xx = .slice (some ⟨bl, ol, none⟩) m lc
              | 7 => xx = .int .i64 i
              | 8 => xx = .pointer (some ⟨bl, ol + i * 2, none⟩)
              | 9 => xx = .pointer (some ⟨bl, ol + i * 2 + 1, none⟩)
              | 10 => xx = .int .i64 b
              | 11 => (fun x w' => True) xx ww
              | 12 => xx = undef
              | _ => True := ⟨_, rfl⟩
          have ergf0 : ∀ xx ww, Ergf 0 xx ww = (xx = .agg #[.slice o nl k, .int .i64 r, .int .i64 c, .bool pd, .bool au]) := fun xx ww => congrFun (congrFun (congrFun hErgf 0) xx) ww
          have ergf1 : ∀ xx ww, Ergf 1 xx ww = (xx = .slice (some ⟨bl, ol, none⟩) m lc) := fun xx ww => congrFun (congrFun (congrFun hErgf 1) xx) ww
          have ergf2 : ∀ xx ww, Ergf 2 xx ww = (xx = .int .i64 i) := fun xx ww => congrFun (congrFun (congrFun hErgf 2) xx) ww
          have ergf3 : ∀ xx ww, Ergf 3 xx ww = (xx = .pointer (some ⟨bl, ol + i * 2, none⟩)) := fun xx ww => congrFun (congrFun (congrFun hErgf 3) xx) ww
          have ergf4 : ∀ xx ww, Ergf 4 xx ww = (xx = .pointer (some ⟨bl, ol + i * 2, none⟩)) := fun xx ww => congrFun (congrFun (congrFun hErgf 4) xx) ww
          have ergf5 : ∀ xx ww, Ergf 5 xx ww = (xx = .int .i64 a) := fun xx ww => congrFun (congrFun (congrFun hErgf 5) xx) ww
          have ergf6 : ∀ xx ww, Ergf 6 xx ww = (xx = .slice (some ⟨bl, ol, none⟩) m lc) := fun xx ww => congrFun (congrFun (congrFun hErgf 6) xx) ww
          have ergf7 : ∀ xx ww, Ergf 7 xx ww = (xx = .int .i64 i) := fun xx ww => congrFun (congrFun (congrFun hErgf 7) xx) ww
          have ergf8 : ∀ xx ww, Ergf 8 xx ww = (xx = .pointer (some ⟨bl, ol + i * 2, none⟩)) := fun xx ww => congrFun (congrFun (congrFun hErgf 8) xx) ww
          have ergf9 : ∀ xx ww, Ergf 9 xx ww = (xx = .pointer (some ⟨bl, ol + i * 2 + 1, none⟩)) := fun xx ww => congrFun (congrFun (congrFun hErgf 9) xx) ww
          have ergf10 : ∀ xx ww, Ergf 10 xx ww = (xx = .int .i64 b) := fun xx ww => congrFun (congrFun (congrFun hErgf 10) xx) ww
          have ergf11 : ∀ xx ww, Ergf 11 xx ww = ((fun x w' => True) xx ww) := fun xx ww => congrFun (congrFun (congrFun hErgf 11) xx) ww
          have ergf12 : ∀ xx ww, Ergf 12 xx ww = (xx = undef) := fun xx ww => congrFun (congrFun (congrFun hErgf 12) xx) ww
          obtain ⟨Crgf, hCrgf⟩ : ∃ CC : Array Bool → Value → World → Prop, CC = fun L8 x w' => Below W.heap.size W w' ∧ (Mix.one L8 12 = 0 → Below wx.heap.size wx w') ∧ (Mix.one L8 11 = 1 → ∃ o9 k9, x = .agg #[.slice o9 n9 k9, .int .i64 rr, .int .i64 cc, .bool false, .bool au] ∧ (Mix.one L8 12 = 0 → HeldE lineE (fun b => ((¬ PZ wx gp gr2 R2 b ∧ b ≠ b8) ∧ b < wx.heap.size) ∨ wx.heap.size ≤ b) w' (.slice o9 n9 k9) LP)) ∧ (Mix.one L8 12 = 1 → ∃ o9 k9, QAt W BP gp g2 gr2 nw b8 R2 LP rr cc false au LP rr cc false au o9 k9 w') := ⟨_, rfl⟩
          have krgf : ∀ i L {x : Value} w, i ≠ 11 → i ≠ 12 →  Crgf L x w → Crgf (L.setIfInBounds i true) x w := by
            intro i L x w q11 q12 h
            rw [hCrgf] at h ⊢
            simp only [Mix.one_ne q11, Mix.one_ne q12]; exact h
          obtain ⟨Xrgf, hXrgf⟩ : ∃ XX : World → World → Prop, XX = fun _ _ => True := ⟨_, rfl⟩
          have xrgf : ∀ w, Xrgf w w := fun w => by rw [hXrgf]; exact trivial
          have strgf : ∀ j x w w1, Xrgf w w1 → Ergf j x w → Ergf j x w1 := by
            intro j x w w1 hx h
            rw [hXrgf] at hx
            match j with
            | 0 => rw [ergf0] at h ⊢; exact h
            | 1 => rw [ergf1] at h ⊢; exact h
            | 2 => rw [ergf2] at h ⊢; exact h
            | 3 => rw [ergf3] at h ⊢; exact h
            | 4 => rw [ergf4] at h ⊢; exact h
            | 5 => rw [ergf5] at h ⊢; exact h
            | 6 => rw [ergf6] at h ⊢; exact h
            | 7 => rw [ergf7] at h ⊢; exact h
            | 8 => rw [ergf8] at h ⊢; exact h
            | 9 => rw [ergf9] at h ⊢; exact h
            | 10 => rw [ergf10] at h ⊢; exact h
            | 11 => rw [ergf11] at h ⊢; (exact h)
            | 12 => rw [ergf12] at h ⊢; exact h
            | j + 13 => rw [hErgf]; trivial
          have crgf : ∀ x, Crgf (Array.replicate 13 false) x wx.drew := fun x => by rw [hCrgf]; exact ⟨HQX.out.2.2.2.trans ((Below.refl wx.heap.size wx).drew.mono HQX.out.2.2.2.size), fun _ => (Below.refl _ _).drew, fun e => absurd e (by decide), fun e => absurd e (by decide)⟩
          have brgf : ∀ L {x : Value} w w1, Crgf L x w → Below w.heap.size w w1 → Crgf L x w1 := by
            intro L x w w1 h hb
            rw [hCrgf] at h ⊢
            (obtain ⟨q1, q2, q3, q4⟩ := h; exact ⟨q1.trans (hb.mono q1.size), fun e => (q2 e).trans (hb.mono (q2 e).size), fun e => by obtain ⟨o9, k9, e1, h1⟩ := q3 e; exact ⟨o9, k9, e1, fun f => (h1 f).below hb⟩, fun e => by obtain ⟨o9, k9, h1⟩ := q4 e; exact ⟨o9, k9, h1.below hb⟩⟩)
          have xbrgf : ∀ w w1, Below w.heap.size w w1 → Xrgf w w1 := by
            intro w w1 hb
            rw [hXrgf]
            trivial
          have Hrgfb : Go.RowKit.Hid (∀ L {x : Value} w w1, Crgf L x w → Below w.heap.size w w1 → Crgf L x w1) := @brgf
          have Hrgfxb := Lib.hid xbrgf
          clear brgf xbrgf
          clear hErgf
          have Hrgfk : Go.RowKit.Hid (∀ i L {x : Value} w, i ≠ 11 → i ≠ 12 →  Crgf L x w → Crgf (L.setIfInBounds i true) x w) := @krgf
          have Hrgfx := Lib.hid xrgf
          have Hrgfst := Lib.hid strgf
          have Hrgfc := Lib.hid crgf
          have HrgfhC := Lib.hid hCrgf
          have HrgfhX := Lib.hid hXrgf
          have Hrgfe0 := Lib.hid ergf0
          have Hrgfe1 := Lib.hid ergf1
          have Hrgfe2 := Lib.hid ergf2
          have Hrgfe3 := Lib.hid ergf3
          have Hrgfe4 := Lib.hid ergf4
          have Hrgfe5 := Lib.hid ergf5
          have Hrgfe6 := Lib.hid ergf6
          have Hrgfe7 := Lib.hid ergf7
          have Hrgfe8 := Lib.hid ergf8
          have Hrgfe9 := Lib.hid ergf9
          have Hrgfe10 := Lib.hid ergf10
          have Hrgfe11 := Lib.hid ergf11
          have Hrgfe12 := Lib.hid ergf12
          clear krgf xrgf strgf crgf hCrgf hXrgf ergf0 ergf1 ergf2 ergf3 ergf4 ergf5 ergf6 ergf7 ergf8 ergf9 ergf10 ergf11 ergf12
          go_wp2_with fail
          refine RegC.regionF 11 Ergf Crgf Xrgf Hrgfst.out (by kernel_rfl) (by kernel_rfl) (by kernel_rfl) Hrgfc.out (fun Frgf hFrgf => ?_)
          simp only [Reg.frame, Reg.dsts, List.map_cons, List.map_nil, Mix.put_lit, Reg.put_none, List.set_cons_succ, List.set_cons_zero, Nat.zero_add, Nat.reduceAdd] at hFrgf
          refine ⟨?_, ?_⟩
          · refine ⟨?_, ?_, ?_, ?_, ?_, ?_, ?_, ?_, ?_, ?_, ?_, ?_, ?_, trivial⟩
            · intro Lq wq xq hh
              simp only [hFrgf]
              refine .inl ⟨rfl, ?_⟩
              unfold Reg.upon
              have hc : Crgf Lq (xq 11) wq := hh.cls
              rw [HrgfhC.out] at hc
              have hq := (HQX.out.below (hc.2.1 (Mix.one_un (hh.notYet 12 (by kernel_rfl))))).2.1
              rw [← HNL.out] at hq
              have q0 := hq.cell 0 _ rfl
              have q1 := hq.cell 1 _ rfl
              have q2 := hq.cell 2 _ rfl
              have q3 := hq.cell 3 _ rfl
              have q4 := hq.cell 4 _ rfl
              clear hc
              have hk := Hrgfk.out 0 Lq wq (by decide) (by decide)  hh.cls
              have hx := Hrgfx.out wq
              have he : Ergf 0 (.agg #[.slice o nl k, .int .i64 r, .int .i64 c, .bool pd, .bool au]) wq := by rw [Hrgfe0.out]
              have HK := Lib.hid (And.intro hk (And.intro he hx))
              clear hk hx he
              go_simp
              exact HK.out
            · intro Lq wq xq hh
              simp only [hFrgf]
              refine .inl ⟨rfl, ?_⟩
              unfold Reg.upon
              have hk := Hrgfk.out 1 Lq wq (by decide) (by decide)  hh.cls
              have hx := Hrgfx.out wq
              have he : Ergf 1 (.slice (some ⟨bl, ol, none⟩) m lc) wq := by rw [Hrgfe1.out]
              have HK := Lib.hid (And.intro hk (And.intro he hx))
              clear hk hx he
              go_simp
              exact HK.out
            · intro Lq wq xq hh
              simp only [hFrgf]
              refine .inl ⟨rfl, ?_⟩
              unfold Reg.upon
              have hk := Hrgfk.out 2 Lq wq (by decide) (by decide)  hh.cls
              have hx := Hrgfx.out wq
              have he : Ergf 2 (.int .i64 i) wq := by rw [Hrgfe2.out]
              have HK := Lib.hid (And.intro hk (And.intro he hx))
              clear hk hx he
              go_simp
              exact HK.out
            · intro Lq wq xq hh
              have d1 : Ergf 1 (xq 1) wq := hh.val 1 (by kernel_rfl) (by kernel_rfl)
              rw [Hrgfe1.out] at d1
              have d2 : Ergf 2 (xq 2) wq := hh.val 2 (by kernel_rfl) (by kernel_rfl)
              rw [Hrgfe2.out] at d2
              simp only [hFrgf, d1, d2]
              clear d1 d2
              refine .inl ⟨rfl, ?_⟩
              unfold Reg.upon
              have hk := Hrgfk.out 3 Lq wq (by decide) (by decide)  hh.cls
              have hx := Hrgfx.out wq
              have he : Ergf 3 (.pointer (some ⟨bl, ol + i * 2, none⟩)) wq := by rw [Hrgfe3.out]
              have HK := Lib.hid (And.intro hk (And.intro he hx))
              clear hk hx he
              go_simp
              exact HK.out
            · intro Lq wq xq hh
              have d3 : Ergf 3 (xq 3) wq := hh.val 3 (by kernel_rfl) (by kernel_rfl)
              rw [Hrgfe3.out] at d3
              simp only [hFrgf, d3]
              clear d3
              refine .inl ⟨rfl, ?_⟩
              unfold Reg.upon
              have hk := Hrgfk.out 4 Lq wq (by decide) (by decide)  hh.cls
              have hx := Hrgfx.out wq
              have he : Ergf 4 (.pointer (some ⟨bl, ol + i * 2, none⟩)) wq := by rw [Hrgfe4.out]
              have HK := Lib.hid (And.intro hk (And.intro he hx))
              clear hk hx he
              go_simp
              exact HK.out
            · intro Lq wq xq hh
              have d4 : Ergf 4 (xq 4) wq := hh.val 4 (by kernel_rfl) (by kernel_rfl)
              rw [Hrgfe4.out] at d4
              simp only [hFrgf, d4]
              clear d4
              refine .inl ⟨rfl, ?_⟩
              unfold Reg.upon
              have hc : Crgf Lq (xq 11) wq := hh.cls
              rw [HrgfhC.out] at hc
              have y0 := (hc.1.cell (p := ⟨bl, ol + i * 2, none⟩) HBL.out).trans HL0.out
              clear hc
              have hk := Hrgfk.out 5 Lq wq (by decide) (by decide)  hh.cls
              have hx := Hrgfx.out wq
              have he : Ergf 5 (.int .i64 a) wq := by rw [Hrgfe5.out]
              have HK := Lib.hid (And.intro hk (And.intro he hx))
              clear hk hx he
              go_simp
              exact HK.out
            · intro Lq wq xq hh
              simp only [hFrgf]
              refine .inl ⟨rfl, ?_⟩
              unfold Reg.upon
              have hk := Hrgfk.out 6 Lq wq (by decide) (by decide)  hh.cls
              have hx := Hrgfx.out wq
              have he : Ergf 6 (.slice (some ⟨bl, ol, none⟩) m lc) wq := by rw [Hrgfe6.out]
              have HK := Lib.hid (And.intro hk (And.intro he hx))
              clear hk hx he
              go_simp
              exact HK.out
            · intro Lq wq xq hh
              simp only [hFrgf]
              refine .inl ⟨rfl, ?_⟩
              unfold Reg.upon
              have hk := Hrgfk.out 7 Lq wq (by decide) (by decide)  hh.cls
              have hx := Hrgfx.out wq
              have he : Ergf 7 (.int .i64 i) wq := by rw [Hrgfe7.out]
              have HK := Lib.hid (And.intro hk (And.intro he hx))
              clear hk hx he
              go_simp
              exact HK.out
            · intro Lq wq xq hh
              have d6 : Ergf 6 (xq 6) wq := hh.val 6 (by kernel_rfl) (by kernel_rfl)
              rw [Hrgfe6.out] at d6
              have d7 : Ergf 7 (xq 7) wq := hh.val 7 (by kernel_rfl) (by kernel_rfl)
              rw [Hrgfe7.out] at d7
              simp only [hFrgf, d6, d7]
              clear d6 d7
              refine .inl ⟨rfl, ?_⟩
              unfold Reg.upon
              have hk := Hrgfk.out 8 Lq wq (by decide) (by decide)  hh.cls
              have hx := Hrgfx.out wq
              have he : Ergf 8 (.pointer (some ⟨bl, ol + i * 2, none⟩)) wq := by rw [Hrgfe8.out]
              have HK := Lib.hid (And.intro hk (And.intro he hx))
              clear hk hx he
              go_simp
              exact HK.out
            · intro Lq wq xq hh
              have d8 : Ergf 8 (xq 8) wq := hh.val 8 (by kernel_rfl) (by kernel_rfl)
              rw [Hrgfe8.out] at d8
              simp only [hFrgf, d8]
              clear d8
              refine .inl ⟨rfl, ?_⟩
              unfold Reg.upon
              have hk := Hrgfk.out 9 Lq wq (by decide) (by decide)  hh.cls
              have hx := Hrgfx.out wq
              have he : Ergf 9 (.pointer (some ⟨bl, ol + i * 2 + 1, none⟩)) wq := by rw [Hrgfe9.out]
              have HK := Lib.hid (And.intro hk (And.intro he hx))
              clear hk hx he
              go_simp
              exact HK.out
            · intro Lq wq xq hh
              have d9 : Ergf 9 (xq 9) wq := hh.val 9 (by kernel_rfl) (by kernel_rfl)
              rw [Hrgfe9.out] at d9
              simp only [hFrgf, d9]
              clear d9
              refine .inl ⟨rfl, ?_⟩
              unfold Reg.upon
              have hc : Crgf Lq (xq 11) wq := hh.cls
              rw [HrgfhC.out] at hc
              have y1 := (hc.1.cell (p := ⟨bl, ol + i * 2 + 1, none⟩) HBL.out).trans HL1.out
              clear hc
              have hk := Hrgfk.out 10 Lq wq (by decide) (by decide)  hh.cls
              have hx := Hrgfx.out wq
              have he : Ergf 10 (.int .i64 b) wq := by rw [Hrgfe10.out]
              have HK := Lib.hid (And.intro hk (And.intro he hx))
              clear hk hx he
              go_simp
              exact HK.out
            · intro Lq wq xq hh
              have d0 : Ergf 0 (xq 0) wq := hh.val 0 (by kernel_rfl) (by kernel_rfl)
              rw [Hrgfe0.out] at d0
              have d5 : Ergf 5 (xq 5) wq := hh.val 5 (by kernel_rfl) (by kernel_rfl)
              rw [Hrgfe5.out] at d5
              have d10 : Ergf 10 (xq 10) wq := hh.val 10 (by kernel_rfl) (by kernel_rfl)
              rw [Hrgfe10.out] at d10
              simp only [hFrgf, d0, d5, d10]
              clear d0 d5 d10
              refine .inl ⟨rfl, ?_⟩
              unfold Reg.upon
              have hc : Crgf Lq (xq 11) wq := hh.cls
              rw [HrgfhC.out] at hc
              have hb := hc.2.1 (Mix.one_un (hh.notYet 12 (by kernel_rfl)))
              have hq := HQX.out.below hb
              have hrs := HRS.out (fun x => (¬ PZ wx gp gr2 R2 x ∧ x ≠ b8) ∧ x < wx.heap.size) wq ((HQX.out.2.2.1.zone (Y := fun x => (¬ PZ wx gp gr2 R2 x ∧ x ≠ b8) ∧ x < wx.heap.size) (fun x hx hz => ⟨hz, hx⟩)).below hb) (fun x hx => Nat.lt_of_lt_of_le hx.2 hb.size)
              rw [← HNL.out] at hrs
              go_simp
              refine hrs.mono ?_
              rintro e w2 ⟨v9, rfl, h9, b9⟩
              obtain ⟨o9, k9, ev9⟩ := h9.len
              rw [← HN9.out] at ev9
              subst ev9
              have hF : Crgf (Lq.setIfInBounds 11 true) (.agg #[.slice o9 n9 k9, .int .i64 rr, .int .i64 cc, .bool false, .bool au]) w2 := by
                rw [HrgfhC.out]
                refine ⟨hc.1.trans (b9.mono hc.1.size), fun _ => hb.trans (b9.mono hb.size), fun _ => ⟨o9, k9, rfl, fun _ => h9.zone (fun x _ hz => ?_)⟩, fun e => ?_⟩
                · rcases hz with hz | hz
                  · exact .inl hz
                  · exact .inr (Nat.le_trans hb.size hz.1)
                · rw [Mix.one_ne (by decide), Mix.one_un (hh.notYet 12 (by kernel_rfl))] at e
                  exact absurd e (by decide)
              exact ⟨_, rfl, hF, (by rw [Hrgfe11.out]; trivial), (by rw [HrgfhX.out]; trivial)⟩
            · intro Lq wq xq hh
              have d11 : Ergf 11 (xq 11) wq := hh.val 11 (by kernel_rfl) (by kernel_rfl)
              rw [Hrgfe11.out] at d11
              simp only [hFrgf]
              refine .inl ⟨rfl, ?_⟩
              unfold Reg.upon
              have hc : Crgf Lq (xq 11) wq := hh.cls
              rw [HrgfhC.out] at hc
              have hb := hc.2.1 hh.un
              obtain ⟨o9, k9, e1, hz⟩ := hc.2.2.1 (hh.isDone 11 (by kernel_rfl))
              have hz := hz hh.un
              have hqb := (HQX.out.below hb).2.1
              have s0 := hqb.cell 0 _ rfl
              have s1 := hqb.cell 1 _ rfl
              have s2 := hqb.cell 2 _ rfl
              have s3 := hqb.cell 3 _ rfl
              have s4 := hqb.cell 4 _ rfl
              have f0 := hqb.free 0
              have f1 := hqb.free 1
              have f2 := hqb.free 2
              have f3 := hqb.free 3
              have f4 := hqb.free 4
              have q10 := QAt.put (r3 := rr) (c3 := cc) (pd3 := false) (au3 := au) HWB8.out HQX.out hb (hz.zone (Y := fun x => ((¬ PZ wx gp gr2 R2 x ∧ x ≠ b8) ∧ x < wx.heap.size) ∨ (wx.heap.size ≤ x ∧ x < wq.heap.size)) (fun x hx hy => by rcases hy with hy | hy; exact .inl hy; exact .inr ⟨hy, hx⟩))
              have hF : Crgf (Lq.setIfInBounds 12 true) (xq 11) (((((wq.setCell ⟨b8, 0, none⟩ (.slice o9 n9 k9)).setCell ⟨b8, 1, none⟩ (.int .i64 rr)).setCell ⟨b8, 2, none⟩ (.int .i64 cc)).setCell ⟨b8, 3, none⟩ (.bool false)).setCell ⟨b8, 4, none⟩ (.bool au)) := by
                rw [HrgfhC.out]
                refine ⟨q10.2.2.2, fun e => ?_, fun _ => ⟨o9, k9, e1, fun e => ?_⟩, fun _ => ⟨o9, k9, q10⟩⟩
                · rw [Mix.one_set (by rw [hh.size]; decide)] at e
                  exact absurd e (by decide)
                · rw [Mix.one_set (by rw [hh.size]; decide)] at e
                  exact absurd e (by decide)
              have hE : Ergf 12 undef (((((wq.setCell ⟨b8, 0, none⟩ (.slice o9 n9 k9)).setCell ⟨b8, 1, none⟩ (.int .i64 rr)).setCell ⟨b8, 2, none⟩ (.int .i64 cc)).setCell ⟨b8, 3, none⟩ (.bool false)).setCell ⟨b8, 4, none⟩ (.bool au)) := by rw [Hrgfe12.out]
              have hX : Xrgf wq (((((wq.setCell ⟨b8, 0, none⟩ (.slice o9 n9 k9)).setCell ⟨b8, 1, none⟩ (.int .i64 rr)).setCell ⟨b8, 2, none⟩ (.int .i64 cc)).setCell ⟨b8, 3, none⟩ (.bool false)).setCell ⟨b8, 4, none⟩ (.bool au)) := by rw [HrgfhX.out]; trivial
              rw [e1]
              clear hc hz hqb q10 hb
              go_simp
              exact ⟨hF, hE, hX⟩
          intro xq wrgf hcrgf hvrgf
          rw [HrgfhC.out] at hcrgf
          simp only [hFrgf]
          clear hvrgf hFrgf Hrgfk Hrgfx Hrgfst Hrgfc HrgfhC HrgfhX Hrgfb Hrgfxb Hrgfe0 Hrgfe1 Hrgfe2 Hrgfe3 Hrgfe4 Hrgfe5 Hrgfe6 Hrgfe7 Hrgfe8 Hrgfe9 Hrgfe10 Hrgfe11 Hrgfe12
          obtain ⟨o9, k9, hqf⟩ := hcrgf.2.2.2 (by kernel_rfl)
          have HQF := Lib.hid hqf
          have hqb := hqf.2.1
          rw [← HN9.out] at hqb
          have q0 := hqb.cell 0 _ rfl
          have q1 := hqb.cell 1 _ rfl
          have q2 := hqb.cell 2 _ rfl
          have q3 := hqb.cell 3 _ rfl
          have q4 := hqb.cell 4 _ rfl
          have hal := alike_any BP gp g2 gr2 nw R2 LP rr cc false au _ _ wrgf hqf.1 hqf.2.2.1
          rw [← HN9.out] at hal
          have HAL := Lib.hid hal
          clear hqb hal hqf hcrgf HQX HRS
          go_wp2_with fail
          refine HAL.out.mono ?_
          rintro e wz ⟨rfl, bz⟩
          have HZZ := Lib.hid (HQF.out.below bz)
          clear bz q0 q1 q2 q3 q4
          go_wp2
          go_roundw
          case rel => exact ⟨i + 1, g2, gr2, nw, R2, LP, rr, cc, false, o9, k9, by omega, by go_num, HZZ.out⟩
          case measure => simp [intOf] <;> omega
      ·
        have t1 : decide ((200 : Int) < a) = false := by rw [decide_eq_false_iff_not]; exact ha2
        clear ha2
        obtain ⟨nw, hnw⟩ : ∃ nw, rowN a = nw := ⟨_, rfl⟩
        obtain ⟨nh, hnh⟩ : ∃ nh, rowN b = nh := ⟨_, rfl⟩
        obtain ⟨LP, hLP⟩ : ∃ LP, LP = szL Lx nw nh (r2 + 1 - nh) (min nh (Lx.length - (r2 + 1 - nh))) := ⟨_, rfl⟩
        obtain ⟨rr, hrr⟩ : ∃ rr, rr = r2 - (r2 + 1 - nh) := ⟨_, rfl⟩
        obtain ⟨cc, hcc⟩ : ∃ cc, cc = min c2 (nw - 1) := ⟨_, rfl⟩
        have HPS := Lib.hid (fun w' h1 h2 => psize_full BP gp gg gr wd R Lx r c pd au a b w' h1 h2 r2 c2 HR2.out HC2.out HLR.out HLC.out nw nh hnw hnh)
        have HRS := Lib.hid (fun Zq w' h1 h2 => rsize_any Zq (.slice o Lx.length k) Lx r c pd au a b w' h1 h2 HS0.out.1 HS0.out.2.1 wd HS0.out.2.2.1 HS0.out.2.2.2 HSD.out r2 c2 HR2.out HC2.out HLR.out HLC.out nw nh hnw hnh)
        rw [← hLP, ← hrr, ← hcc] at HPS HRS
        obtain ⟨nl, hnl⟩ : ∃ nl, nl = Lx.length := ⟨_, rfl⟩
        have HNL := Lib.hid hnl
        clear hnw hnh hLP hrr hcc hnl
        go_upto_region 14 with (fail)
        obtain ⟨Erg, hErg⟩ : ∃ EE : Nat → Value → World → Prop, EE = fun jj xx ww => match jj with
            | 0 => xx = .pointer (some ⟨gp, 0, none⟩)
            | 1 => xx = .slice (some ⟨bl, ol, none⟩) m lc
            | 2 => xx = .int .i64 i
            | 3 => xx = .pointer (some ⟨bl, ol + i * 2, none⟩)
            | 4 => xx = .pointer (some ⟨bl, ol + i * 2, none⟩)
            | 5 => xx = .int .i64 a
            | 6 => xx = .slice (some ⟨bl, ol, none⟩) m lc
            | 7 => xx = .int .i64 i
            | 8 => xx = .pointer (some ⟨bl, ol + i * 2, none⟩)
            | 9 => xx = .pointer (some ⟨bl, ol + i * 2 + 1, none⟩)
            | 10 => xx = .int .i64 b
            | 11 => xx = .tuple #[]
            | _ => True := ⟨_, rfl⟩
        have erg0 : ∀ xx ww, Erg 0 xx ww = (xx = .pointer (some ⟨gp, 0, none⟩)) := fun xx ww => congrFun (congrFun (congrFun hErg 0) xx) ww
        have erg1 : ∀ xx ww, Erg 1 xx ww = (xx = .slice (some ⟨bl, ol, none⟩) m lc) := fun xx ww => congrFun (congrFun (congrFun hErg 1) xx) ww
        have erg2 : ∀ xx ww, Erg 2 xx ww = (xx = .int .i64 i) := fun xx ww => congrFun (congrFun (congrFun hErg 2) xx) ww
        have erg3 : ∀ xx ww, Erg 3 xx ww = (xx = .pointer (some ⟨bl, ol + i * 2, none⟩)) := fun xx ww => congrFun (congrFun (congrFun hErg 3) xx) ww
        have erg4 : ∀ xx ww, Erg 4 xx ww = (xx = .pointer (some ⟨bl, ol + i * 2, none⟩)) := fun xx ww => congrFun (congrFun (congrFun hErg 4) xx) ww
        have erg5 : ∀ xx ww, Erg 5 xx ww = (xx = .int .i64 a) := fun xx ww => congrFun (congrFun (congrFun hErg 5) xx) ww
        have erg6 : ∀ xx ww, Erg 6 xx ww = (xx = .slice (some ⟨bl, ol, none⟩) m lc) := fun xx ww => congrFun (congrFun (congrFun hErg 6) xx) ww
        have erg7 : ∀ xx ww, Erg 7 xx ww = (xx = .int .i64 i) := fun xx ww => congrFun (congrFun (congrFun hErg 7) xx) ww
        have erg8 : ∀ xx ww, Erg 8 xx ww = (xx = .pointer (some ⟨bl, ol + i * 2, none⟩)) := fun xx ww => congrFun (congrFun (congrFun hErg 8) xx) ww
        have erg9 : ∀ xx ww, Erg 9 xx ww = (xx = .pointer (some ⟨bl, ol + i * 2 + 1, none⟩)) := fun xx ww => congrFun (congrFun (congrFun hErg 9) xx) ww
        have erg10 : ∀ xx ww, Erg 10 xx ww = (xx = .int .i64 b) := fun xx ww => congrFun (congrFun (congrFun hErg 10) xx) ww
        have erg11 : ∀ xx ww, Erg 11 xx ww = (xx = .tuple #[]) := fun xx ww => congrFun (congrFun (congrFun hErg 11) xx) ww
        obtain ⟨Crg, hCrg⟩ : ∃ CC : Array Bool → World → Prop, CC = fun L8 w' => Below W.heap.size W w' ∧ (Mix.one L8 11 = 0 → QAt W BP gp gg gr wd b8 R Lx r c pd au Lx r c pd au o k w') ∧ (Mix.one L8 11 = 1 → ∃ gg2 gr2 R2, QAt W BP gp gg2 gr2 nw b8 R2 LP rr cc false au Lx r c pd au o k w') := ⟨_, rfl⟩
        have krg : ∀ i L w, i ≠ 11 →  Crg L w → Crg (L.setIfInBounds i true) w := by
          intro i L w q11 h
          rw [hCrg] at h ⊢
          simp only [Mix.one_ne q11]; exact h
        obtain ⟨Xrg, hXrg⟩ : ∃ XX : World → World → Prop, XX = fun _ _ => True := ⟨_, rfl⟩
        have xrg : ∀ w, Xrg w w := fun w => by rw [hXrg]; exact trivial
        have strg : ∀ j x w w1, Xrg w w1 → Erg j x w → Erg j x w1 := by
          intro j x w w1 hx h
          rw [hXrg] at hx
          match j with
          | 0 => rw [erg0] at h ⊢; exact h
          | 1 => rw [erg1] at h ⊢; exact h
          | 2 => rw [erg2] at h ⊢; exact h
          | 3 => rw [erg3] at h ⊢; exact h
          | 4 => rw [erg4] at h ⊢; exact h
          | 5 => rw [erg5] at h ⊢; exact h
          | 6 => rw [erg6] at h ⊢; exact h
          | 7 => rw [erg7] at h ⊢; exact h
          | 8 => rw [erg8] at h ⊢; exact h
          | 9 => rw [erg9] at h ⊢; exact h
          | 10 => rw [erg10] at h ⊢; exact h
          | 11 => rw [erg11] at h ⊢; exact h
          | j + 12 => rw [hErg]; trivial
        have crg : Crg (Array.replicate 12 false) wq.drew := by rw [hCrg]; exact ⟨HQ.out.2.2.2.trans ((Below.refl wq.heap.size wq).drew.mono HQ.out.2.2.2.size), fun _ => HQ.out.below (Below.refl _ _).drew, fun e => absurd e (by decide)⟩
        have brg : ∀ L w w1, Crg L w → Below w.heap.size w w1 → Crg L w1 := by
          intro L w w1 h hb
          rw [hCrg] at h ⊢
          (obtain ⟨q1, q2, q3⟩ := h; exact ⟨q1.trans (hb.mono q1.size), fun e => (q2 e).below hb, fun e => by obtain ⟨a1, a2, a3, h1⟩ := q3 e; exact ⟨a1, a2, a3, h1.below hb⟩⟩)
        have xbrg : ∀ w w1, Below w.heap.size w w1 → Xrg w w1 := by
          intro w w1 hb
          rw [hXrg]
          trivial
        have Hrgb := Lib.hid brg
        have Hrgxb := Lib.hid xbrg
        clear brg xbrg
        clear hErg
        have Hrgk := Lib.hid krg
        have Hrgx := Lib.hid xrg
        have Hrgst := Lib.hid strg
        have Hrgc := Lib.hid crg
        have HrghC := Lib.hid hCrg
        have HrghX := Lib.hid hXrg
        have Hrge0 := Lib.hid erg0
        have Hrge1 := Lib.hid erg1
        have Hrge2 := Lib.hid erg2
        have Hrge3 := Lib.hid erg3
        have Hrge4 := Lib.hid erg4
        have Hrge5 := Lib.hid erg5
        have Hrge6 := Lib.hid erg6
        have Hrge7 := Lib.hid erg7
        have Hrge8 := Lib.hid erg8
        have Hrge9 := Lib.hid erg9
        have Hrge10 := Lib.hid erg10
        have Hrge11 := Lib.hid erg11
        clear krg xrg strg crg hCrg hXrg erg0 erg1 erg2 erg3 erg4 erg5 erg6 erg7 erg8 erg9 erg10 erg11
        go_wp2_with fail
        refine Reg.regionF Erg Crg Xrg Hrgst.out (by kernel_rfl) (by kernel_rfl) (by kernel_rfl) Hrgc.out (fun Frg hFrg => ?_)
        simp only [Reg.frame, Reg.dsts, List.map_cons, List.map_nil, Mix.put_lit, List.set_cons_succ, List.set_cons_zero, Nat.zero_add, Nat.reduceAdd] at hFrg
        refine ⟨?_, ?_⟩
        · refine ⟨?_, ?_, ?_, ?_, ?_, ?_, ?_, ?_, ?_, ?_, ?_, ?_, trivial⟩
          · intro Lq wq xq hh
            simp only [hFrg]
            refine .inl ⟨rfl, ?_⟩
            unfold Reg.upon
            have hk := Hrgk.out 0 Lq wq (by decide)  hh.cls
            have hx := Hrgx.out wq
            have he : Erg 0 (.pointer (some ⟨gp, 0, none⟩)) wq := by rw [Hrge0.out]
            have HK := Lib.hid (And.intro hk (And.intro he hx))
            clear hk hx he
            go_simp
            exact HK.out
          · intro Lq wq xq hh
            simp only [hFrg]
            refine .inl ⟨rfl, ?_⟩
            unfold Reg.upon
            have hk := Hrgk.out 1 Lq wq (by decide)  hh.cls
            have hx := Hrgx.out wq
            have he : Erg 1 (.slice (some ⟨bl, ol, none⟩) m lc) wq := by rw [Hrge1.out]
            have HK := Lib.hid (And.intro hk (And.intro he hx))
            clear hk hx he
            go_simp
            exact HK.out
          · intro Lq wq xq hh
            simp only [hFrg]
            refine .inl ⟨rfl, ?_⟩
            unfold Reg.upon
            have hk := Hrgk.out 2 Lq wq (by decide)  hh.cls
            have hx := Hrgx.out wq
            have he : Erg 2 (.int .i64 i) wq := by rw [Hrge2.out]
            have HK := Lib.hid (And.intro hk (And.intro he hx))
            clear hk hx he
            go_simp
            exact HK.out
          · intro Lq wq xq hh
            have d1 : Erg 1 (xq 1) wq := hh.val 1 (by kernel_rfl) (by kernel_rfl)
            rw [Hrge1.out] at d1
            have d2 : Erg 2 (xq 2) wq := hh.val 2 (by kernel_rfl) (by kernel_rfl)
            rw [Hrge2.out] at d2
            simp only [hFrg, d1, d2]
            clear d1 d2
            refine .inl ⟨rfl, ?_⟩
            unfold Reg.upon
            have hk := Hrgk.out 3 Lq wq (by decide)  hh.cls
            have hx := Hrgx.out wq
            have he : Erg 3 (.pointer (some ⟨bl, ol + i * 2, none⟩)) wq := by rw [Hrge3.out]
            have HK := Lib.hid (And.intro hk (And.intro he hx))
            clear hk hx he
            go_simp
            exact HK.out
          · intro Lq wq xq hh
            have d3 : Erg 3 (xq 3) wq := hh.val 3 (by kernel_rfl) (by kernel_rfl)
            rw [Hrge3.out] at d3
            simp only [hFrg, d3]
            clear d3
            refine .inl ⟨rfl, ?_⟩
            unfold Reg.upon
            have hk := Hrgk.out 4 Lq wq (by decide)  hh.cls
            have hx := Hrgx.out wq
            have he : Erg 4 (.pointer (some ⟨bl, ol + i * 2, none⟩)) wq := by rw [Hrge4.out]
            have HK := Lib.hid (And.intro hk (And.intro he hx))
            clear hk hx he
            go_simp
            exact HK.out
          · intro Lq wq xq hh
            have d4 : Erg 4 (xq 4) wq := hh.val 4 (by kernel_rfl) (by kernel_rfl)
            rw [Hrge4.out] at d4
            simp only [hFrg, d4]
            clear d4
            refine .inl ⟨rfl, ?_⟩
            unfold Reg.upon
            have hc : Crg Lq wq := hh.cls
            rw [HrghC.out] at hc
            have y0 := (hc.1.cell (p := ⟨bl, ol + i * 2, none⟩) HBL.out).trans HL0.out
            clear hc
            have hk := Hrgk.out 5 Lq wq (by decide)  hh.cls
            have hx := Hrgx.out wq
            have he : Erg 5 (.int .i64 a) wq := by rw [Hrge5.out]
            have HK := Lib.hid (And.intro hk (And.intro he hx))
            clear hk hx he
            go_simp
            exact HK.out
          · intro Lq wq xq hh
            simp only [hFrg]
            refine .inl ⟨rfl, ?_⟩
            unfold Reg.upon
            have hk := Hrgk.out 6 Lq wq (by decide)  hh.cls
            have hx := Hrgx.out wq
            have he : Erg 6 (.slice (some ⟨bl, ol, none⟩) m lc) wq := by rw [Hrge6.out]
            have HK := Lib.hid (And.intro hk (And.intro he hx))
            clear hk hx he
            go_simp
            exact HK.out
          · intro Lq wq xq hh
            simp only [hFrg]
            refine .inl ⟨rfl, ?_⟩
            unfold Reg.upon
            have hk := Hrgk.out 7 Lq wq (by decide)  hh.cls
            have hx := Hrgx.out wq
            have he : Erg 7 (.int .i64 i) wq := by rw [Hrge7.out]
            have HK := Lib.hid (And.intro hk (And.intro he hx))
            clear hk hx he
            go_simp
            exact HK.out
          · intro Lq wq xq hh
            have d6 : Erg 6 (xq 6) wq := hh.val 6 (by kernel_rfl) (by kernel_rfl)
            rw [Hrge6.out] at d6
            have d7 : Erg 7 (xq 7) wq := hh.val 7 (by kernel_rfl) (by kernel_rfl)
            rw [Hrge7.out] at d7
            simp only [hFrg, d6, d7]
            clear d6 d7
            refine .inl ⟨rfl, ?_⟩
            unfold Reg.upon
            have hk := Hrgk.out 8 Lq wq (by decide)  hh.cls
            have hx := Hrgx.out wq
            have he : Erg 8 (.pointer (some ⟨bl, ol + i * 2, none⟩)) wq := by rw [Hrge8.out]
            have HK := Lib.hid (And.intro hk (And.intro he hx))
            clear hk hx he
            go_simp
            exact HK.out
          · intro Lq wq xq hh
            have d8 : Erg 8 (xq 8) wq := hh.val 8 (by kernel_rfl) (by kernel_rfl)
            rw [Hrge8.out] at d8
            simp only [hFrg, d8]
            clear d8
            refine .inl ⟨rfl, ?_⟩
            unfold Reg.upon
            have hk := Hrgk.out 9 Lq wq (by decide)  hh.cls
            have hx := Hrgx.out wq
            have he : Erg 9 (.pointer (some ⟨bl, ol + i * 2 + 1, none⟩)) wq := by rw [Hrge9.out]
            have HK := Lib.hid (And.intro hk (And.intro he hx))
            clear hk hx he
            go_simp
            exact HK.out
          · intro Lq wq xq hh
            have d9 : Erg 9 (xq 9) wq := hh.val 9 (by kernel_rfl) (by kernel_rfl)
            rw [Hrge9.out] at d9
            simp only [hFrg, d9]
            clear d9
            refine .inl ⟨rfl, ?_⟩
            unfold Reg.upon
            have hc : Crg Lq wq := hh.cls
            rw [HrghC.out] at hc
            have y1 := (hc.1.cell (p := ⟨bl, ol + i * 2 + 1, none⟩) HBL.out).trans HL1.out
            clear hc
            have hk := Hrgk.out 10 Lq wq (by decide)  hh.cls
            have hx := Hrgx.out wq
            have he : Erg 10 (.int .i64 b) wq := by rw [Hrge10.out]
            have HK := Lib.hid (And.intro hk (And.intro he hx))
            clear hk hx he
            go_simp
            exact HK.out
          · intro Lq wq xq hh
            have d0 : Erg 0 (xq 0) wq := hh.val 0 (by kernel_rfl) (by kernel_rfl)
            rw [Hrge0.out] at d0
            have d5 : Erg 5 (xq 5) wq := hh.val 5 (by kernel_rfl) (by kernel_rfl)
            rw [Hrge5.out] at d5
            have d10 : Erg 10 (xq 10) wq := hh.val 10 (by kernel_rfl) (by kernel_rfl)
            rw [Hrge10.out] at d10
            simp only [hFrg, d0, d5, d10]
            clear d0 d5 d10
            refine .inl ⟨rfl, ?_⟩
            unfold Reg.upon
            have hc : Crg Lq wq := hh.cls
            rw [HrghC.out] at hc
            have hq := hc.2.1 hh.un
            go_simp
            refine (HPS.out wq hq.1 (Nat.le_trans hq.1.2.1 (Nat.le_of_lt hq.1.lt))).mono ?_
            rintro e w2 ⟨rfl, g2, gr2, R2, k1, k2, k3⟩
            have h9 := QAt.resize HWB.out hq k1 k2 k3
            have hF : Crg (Lq.setIfInBounds 11 true) w2 := by
              rw [HrghC.out]
              refine ⟨h9.2.2.2, fun e => ?_, fun _ => ⟨g2, gr2, R2, h9⟩⟩
              rw [Mix.one_set (by rw [hh.size]; decide)] at e
              exact absurd e (by decide)
            exact ⟨_, rfl, hF, (by rw [Hrge11.out]), (by rw [HrghX.out]; trivial)⟩
        intro xq wrg hcrg hvrg
        rw [HrghC.out] at hcrg
        simp only [hFrg]
        clear hvrg hFrg Hrgk Hrgx Hrgst Hrgc HrghC HrghX Hrgb Hrgxb Hrge0 Hrge1 Hrge2 Hrge3 Hrge4 Hrge5 Hrge6 Hrge7 Hrge8 Hrge9 Hrge10 Hrge11
        obtain ⟨_, _, hq9⟩ := hcrg
        obtain ⟨g2, gr2, R2, hq9⟩ := hq9 (by kernel_rfl)
        have HQ9 := Lib.hid hq9
        have z0 := (hq9.2.2.2.cell (p := ⟨bl, ol + i * 2, none⟩) HBL.out).trans HL0.out
        have z1 := (hq9.2.2.2.cell (p := ⟨bl, ol + i * 2 + 1, none⟩) HBL.out).trans HL1.out
        have e0 := ext_cell z0
        have e1 := ext_cell z1
        clear hq9 z0 z1 HPS
        go_upto_region 15 with (fail)
        refine wp_region_ext (by kernel_rfl) (by kernel_rfl) ?_
        repeat (go_big_quiet_step ((go_at_call 11; exact callx_same (psize_nil a b _))))
        refine wpQuiet_nil ?_
        intro _ hw'
        obtain ⟨u, hw''⟩ := hw'
        subst hw''
        obtain ⟨wx, hwx⟩ : ∃ wx, wx = ext wrg u := ⟨_, rfl⟩
        have HWX := Lib.hid hwx
        have HQX := Lib.hid (show QAt W BP gp g2 gr2 nw b8 R2 LP rr cc false au Lx r c pd au o k wx from by rw [hwx]; exact HQ9.out.below u.ok)
        clear hwx e0 e1
        go_upto_region 16 with (fail)
        rw [← HWX.out]
        clear HWX HQ9
        obtain ⟨n9, hn9⟩ : ∃ n9, n9 = LP.length := ⟨_, rfl⟩
        have HN9 := Lib.hid hn9
        clear hn9
        obtain ⟨Ergf, hErgf⟩ : ∃ EE : Nat → Value → World → Prop, EE = fun jj xx ww => match jj with
            | 0 => xx = .agg #[.slice o nl k, .int .i64 r, .int .i64 c, .bool pd, .bool au]
            | 1 => xx = .slice (some ⟨bl, ol, none⟩) m lc
            | 2 => xx = .int .i64 i
            | 3 => xx = .pointer (some ⟨bl, ol + i * 2, none⟩)
            | 4 => xx = .pointer (some ⟨bl, ol + i * 2, none⟩)
            | 5 => xx = .int .i64 a
            | 6 => xx = .slice (some ⟨bl, ol, none⟩) m lc
            | 7 => xx = .int .i64 i
            | 8 => xx = .pointer (some ⟨bl, ol + i * 2, none⟩)
            | 9 => xx = .pointer (some ⟨bl, ol + i * 2 + 1, none⟩)
            | 10 => xx = .int .i64 b
            | 11 => (fun x w' => True) xx ww
            | 12 => xx = undef
            | _ => True := ⟨_, rfl⟩
        have ergf0 : ∀ xx ww, Ergf 0 xx ww = (xx = .agg #[.slice o nl k, .int .i64 r, .int .i64 c, .bool pd, .bool au]) := fun xx ww => congrFun (congrFun (congrFun hErgf 0) xx) ww
        have ergf1 : ∀ xx ww, Ergf 1 xx ww = (xx = .slice (some ⟨bl, ol, none⟩) m lc) := fun xx ww => congrFun (congrFun (congrFun hErgf 1) xx) ww
        have ergf2 : ∀ xx ww, Ergf 2 xx ww = (xx = .int .i64 i) := fun xx ww => congrFun (congrFun (congrFun hErgf 2) xx) ww
        have ergf3 : ∀ xx ww, Ergf 3 xx ww = (xx = .pointer (some ⟨bl, ol + i * 2, none⟩)) := fun xx ww => congrFun (congrFun (congrFun hErgf 3) xx) ww
        have ergf4 : ∀ xx ww, Ergf 4 xx ww = (xx = .pointer (some ⟨bl, ol + i * 2, none⟩)) := fun xx ww => congrFun (congrFun (congrFun hErgf 4) xx) ww
        have ergf5 : ∀ xx ww, Ergf 5 xx ww = (xx = .int .i64 a) := fun xx ww => congrFun (congrFun (congrFun hErgf 5) xx) ww
        have ergf6 : ∀ xx ww, Ergf 6 xx ww = (xx = .slice (some ⟨bl, ol, none⟩) m lc) := fun xx ww => congrFun (congrFun (congrFun hErgf 6) xx) ww
        have ergf7 : ∀ xx ww, Ergf 7 xx ww = (xx = .int .i64 i) := fun xx ww => congrFun (congrFun (congrFun hErgf 7) xx) ww
        have ergf8 : ∀ xx ww, Ergf 8 xx ww = (xx = .pointer (some ⟨bl, ol + i * 2, none⟩)) := fun xx ww => congrFun (congrFun (congrFun hErgf 8) xx) ww
        have ergf9 : ∀ xx ww, Ergf 9 xx ww = (xx = .pointer (some ⟨bl, ol + i * 2 + 1, none⟩)) := fun xx ww => congrFun (congrFun (congrFun hErgf 9) xx) ww
        have ergf10 : ∀ xx ww, Ergf 10 xx ww = (xx = .int .i64 b) := fun xx ww => congrFun (congrFun (congrFun hErgf 10) xx) ww
        have ergf11 : ∀ xx ww, Ergf 11 xx ww = ((fun x w' => True) xx ww) := fun xx ww => congrFun (congrFun (congrFun hErgf 11) xx) ww
        have ergf12 : ∀ xx ww, Ergf 12 xx ww = (xx = undef) := fun xx ww => congrFun (congrFun (congrFun hErgf 12) xx) ww
        obtain ⟨Crgf, hCrgf⟩ : ∃ CC : Array Bool → Value → World → Prop, CC = fun L8 x w' => Below W.heap.size W w' ∧ (Mix.one L8 12 = 0 → Below wx.heap.size wx w') ∧ (Mix.one L8 11 = 1 → ∃ o9 k9, x = .agg #[.slice o9 n9 k9, .int .i64 rr, .int .i64 cc, .bool false, .bool au] ∧ (Mix.one L8 12 = 0 → HeldE lineE (fun b => ((¬ PZ wx gp gr2 R2 b ∧ b ≠ b8) ∧ b < wx.heap.size) ∨ wx.heap.size ≤ b) w' (.slice o9 n9 k9) LP)) ∧ (Mix.one L8 12 = 1 → ∃ o9 k9, QAt W BP gp g2 gr2 nw b8 R2 LP rr cc false au LP rr cc false au o9 k9 w') := ⟨_, rfl⟩
        have krgf : ∀ i L {x : Value} w, i ≠ 11 → i ≠ 12 →  Crgf L x w → Crgf (L.setIfInBounds i true) x w := by
          intro i L x w q11 q12 h
          rw [hCrgf] at h ⊢
          simp only [Mix.one_ne q11, Mix.one_ne q12]; exact h
        obtain ⟨Xrgf, hXrgf⟩ : ∃ XX : World → World → Prop, XX = fun _ _ => True := ⟨_, rfl⟩
        have xrgf : ∀ w, Xrgf w w := fun w => by rw [hXrgf]; exact trivial
        have strgf : ∀ j x w w1, Xrgf w w1 → Ergf j x w → Ergf j x w1 := by
          intro j x w w1 hx h
          rw [hXrgf] at hx
          match j with
          | 0 => rw [ergf0] at h ⊢; exact h
          | 1 => rw [ergf1] at h ⊢; exact h
          | 2 => rw [ergf2] at h ⊢; exact h
          | 3 => rw [ergf3] at h ⊢; exact h
          | 4 => rw [ergf4] at h ⊢; exact h
          | 5 => rw [ergf5] at h ⊢; exact h
          | 6 => rw [ergf6] at h ⊢; exact h
          | 7 => rw [ergf7] at h ⊢; exact h
          | 8 => rw [ergf8] at h ⊢; exact h
          | 9 => rw [ergf9] at h ⊢; exact h
          | 10 => rw [ergf10] at h ⊢; exact h
          | 11 => rw [ergf11] at h ⊢; (exact h)
          | 12 => rw [ergf12] at h ⊢; exact h
          | j + 13 => rw [hErgf]; trivial
        have crgf : ∀ x, Crgf (Array.replicate 13 false) x wx.drew := fun x => by rw [hCrgf]; exact ⟨HQX.out.2.2.2.trans ((Below.refl wx.heap.size wx).drew.mono HQX.out.2.2.2.size), fun _ => (Below.refl _ _).drew, fun e => absurd e (by decide), fun e => absurd e (by decide)⟩
        have brgf : ∀ L {x : Value} w w1, Crgf L x w → Below w.heap.size w w1 → Crgf L x w1 := by
          intro L x w w1 h hb
          rw [hCrgf] at h ⊢
          (obtain ⟨q1, q2, q3, q4⟩ := h; exact ⟨q1.trans (hb.mono q1.size), fun e => (q2 e).trans (hb.mono (q2 e).size), fun e => by obtain ⟨o9, k9, e1, h1⟩ := q3 e; exact ⟨o9, k9, e1, fun f => (h1 f).below hb⟩, fun e => by obtain ⟨o9, k9, h1⟩ := q4 e; exact ⟨o9, k9, h1.below hb⟩⟩)
        have xbrgf : ∀ w w1, Below w.heap.size w w1 → Xrgf w w1 := by
          intro w w1 hb
          rw [hXrgf]
          trivial
        have Hrgfb : Go.RowKit.Hid (∀ L {x : Value} w w1, Crgf L x w → Below w.heap.size w w1 → Crgf L x w1) := @brgf
        have Hrgfxb := Lib.hid xbrgf
        clear brgf xbrgf
        clear hErgf
        have Hrgfk : Go.RowKit.Hid (∀ i L {x : Value} w, i ≠ 11 → i ≠ 12 →  Crgf L x w → Crgf (L.setIfInBounds i true) x w) := @krgf
        have Hrgfx := Lib.hid xrgf
        have Hrgfst := Lib.hid strgf
        have Hrgfc := Lib.hid crgf
        have HrgfhC := Lib.hid hCrgf
        have HrgfhX := Lib.hid hXrgf
        have Hrgfe0 := Lib.hid ergf0
        have Hrgfe1 := Lib.hid ergf1
        have Hrgfe2 := Lib.hid ergf2
        have Hrgfe3 := Lib.hid ergf3
        have Hrgfe4 := Lib.hid ergf4
        have Hrgfe5 := Lib.hid ergf5
        have Hrgfe6 := Lib.hid ergf6
        have Hrgfe7 := Lib.hid ergf7
        have Hrgfe8 := Lib.hid ergf8
        have Hrgfe9 := Lib.hid ergf9
        have Hrgfe10 := Lib.hid ergf10
        have Hrgfe11 := Lib.hid ergf11
        have Hrgfe12 := Lib.hid ergf12
        clear krgf xrgf strgf crgf hCrgf hXrgf ergf0 ergf1 ergf2 ergf3 ergf4 ergf5 ergf6 ergf7 ergf8 ergf9 ergf10 ergf11 ergf12
        go_wp2_with fail
        refine RegC.regionF 11 Ergf Crgf Xrgf Hrgfst.out (by kernel_rfl) (by kernel_rfl) (by kernel_rfl) Hrgfc.out (fun Frgf hFrgf => ?_)
        simp only [Reg.frame, Reg.dsts, List.map_cons, List.map_nil, Mix.put_lit, Reg.put_none, List.set_cons_succ, List.set_cons_zero, Nat.zero_add, Nat.reduceAdd] at hFrgf
        refine ⟨?_, ?_⟩
        · refine ⟨?_, ?_, ?_, ?_, ?_, ?_, ?_, ?_, ?_, ?_, ?_, ?_, ?_, trivial⟩
          · intro Lq wq xq hh
            simp only [hFrgf]
            refine .inl ⟨rfl, ?_⟩
            unfold Reg.upon
            have hc : Crgf Lq (xq 11) wq := hh.cls
            rw [HrgfhC.out] at hc
            have hq := (HQX.out.below (hc.2.1 (Mix.one_un (hh.notYet 12 (by kernel_rfl))))).2.1
            rw [← HNL.out] at hq
            have q0 := hq.cell 0 _ rfl
            have q1 := hq.cell 1 _ rfl
            have q2 := hq.cell 2 _ rfl
            have q3 := hq.cell 3 _ rfl
            have q4 := hq.cell 4 _ rfl
            clear hc
            have hk := Hrgfk.out 0 Lq wq (by decide) (by decide)  hh.cls
            have hx := Hrgfx.out wq
            have he : Ergf 0 (.agg #[.slice o nl k, .int .i64 r, .int .i64 c, .bool pd, .bool au]) wq := by rw [Hrgfe0.out]
            have HK := Lib.hid (And.intro hk (And.intro he hx))
            clear hk hx he
            go_simp
            exact HK.out
          · intro Lq wq xq hh
            simp only [hFrgf]
            refine .inl ⟨rfl, ?_⟩
            unfold Reg.upon
            have hk := Hrgfk.out 1 Lq wq (by decide) (by decide)  hh.cls
            have hx := Hrgfx.out wq
            have he : Ergf 1 (.slice (some ⟨bl, ol, none⟩) m lc) wq := by rw [Hrgfe1.out]
            have HK := Lib.hid (And.intro hk (And.intro he hx))
            clear hk hx he
            go_simp
            exact HK.out
          · intro Lq wq xq hh
            simp only [hFrgf]
            refine .inl ⟨rfl, ?_⟩
            unfold Reg.upon
            have hk := Hrgfk.out 2 Lq wq (by decide) (by decide)  hh.cls
            have hx := Hrgfx.out wq
            have he : Ergf 2 (.int .i64 i) wq := by rw [Hrgfe2.out]
            have HK := Lib.hid (And.intro hk (And.intro he hx))
            clear hk hx he
            go_simp
            exact HK.out
          · intro Lq wq xq hh
            have d1 : Ergf 1 (xq 1) wq := hh.val 1 (by kernel_rfl) (by kernel_rfl)
            rw [Hrgfe1.out] at d1
            have d2 : Ergf 2 (xq 2) wq := hh.val 2 (by kernel_rfl) (by kernel_rfl)
            rw [Hrgfe2.out] at d2
            simp only [hFrgf, d1, d2]
            clear d1 d2
            refine .inl ⟨rfl, ?_⟩
            unfold Reg.upon
            have hk := Hrgfk.out 3 Lq wq (by decide) (by decide)  hh.cls
            have hx := Hrgfx.out wq
            have he : Ergf 3 (.pointer (some ⟨bl, ol + i * 2, none⟩)) wq := by rw [Hrgfe3.out]
            have HK := Lib.hid (And.intro hk (And.intro he hx))
            clear hk hx he
            go_simp
            exact HK.out
          · intro Lq wq xq hh
            have d3 : Ergf 3 (xq 3) wq := hh.val 3 (by kernel_rfl) (by kernel_rfl)
            rw [Hrgfe3.out] at d3
            simp only [hFrgf, d3]
            clear d3
            refine .inl ⟨rfl, ?_⟩
            unfold Reg.upon
            have hk := Hrgfk.out 4 Lq wq (by decide) (by decide)  hh.cls
            have hx := Hrgfx.out wq
            have he : Ergf 4 (.pointer (some ⟨bl, ol + i * 2, none⟩)) wq := by rw [Hrgfe4.out]
            have HK := Lib.hid (And.intro hk (And.intro he hx))
            clear hk hx he
            go_simp
            exact HK.out
          · intro Lq wq xq hh
            have d4 : Ergf 4 (xq 4) wq := hh.val 4 (by kernel_rfl) (by kernel_rfl)
            rw [Hrgfe4.out] at d4
            simp only [hFrgf, d4]
            clear d4
            refine .inl ⟨rfl, ?_⟩
            unfold Reg.upon
            have hc : Crgf Lq (xq 11) wq := hh.cls
            rw [HrgfhC.out] at hc
            have y0 := (hc.1.cell (p := ⟨bl, ol + i * 2, none⟩) HBL.out).trans HL0.out
            clear hc
            have hk := Hrgfk.out 5 Lq wq (by decide) (by decide)  hh.cls
            have hx := Hrgfx.out wq
            have he : Ergf 5 (.int .i64 a) wq := by rw [Hrgfe5.out]
            have HK := Lib.hid (And.intro hk (And.intro he hx))
            clear hk hx he
            go_simp
            exact HK.out
          · intro Lq wq xq hh
            simp only [hFrgf]
            refine .inl ⟨rfl, ?_⟩
            unfold Reg.upon
            have hk := Hrgfk.out 6 Lq wq (by decide) (by decide)  hh.cls
            have hx := Hrgfx.out wq
            have he : Ergf 6 (.slice (some ⟨bl, ol, none⟩) m lc) wq := by rw [Hrgfe6.out]
            have HK := Lib.hid (And.intro hk (And.intro he hx))
            clear hk hx he
            go_simp
            exact HK.out
          · intro Lq wq xq hh
            simp only [hFrgf]
            refine .inl ⟨rfl, ?_⟩
            unfold Reg.upon
            have hk := Hrgfk.out 7 Lq wq (by decide) (by decide)  hh.cls
            have hx := Hrgfx.out wq
            have he : Ergf 7 (.int .i64 i) wq := by rw [Hrgfe7.out]
            have HK := Lib.hid (And.intro hk (And.intro he hx))
            clear hk hx he
            go_simp
            exact HK.out
          · intro Lq wq xq hh
            have d6 : Ergf 6 (xq 6) wq := hh.val 6 (by kernel_rfl) (by kernel_rfl)
            rw [Hrgfe6.out] at d6
            have d7 : Ergf 7 (xq 7) wq := hh.val 7 (by kernel_rfl) (by kernel_rfl)
            rw [Hrgfe7.out] at d7
            simp only [hFrgf, d6, d7]
            clear d6 d7
            refine .inl ⟨rfl, ?_⟩
            unfold Reg.upon
            have hk := Hrgfk.out 8 Lq wq (by decide) (by decide)  hh.cls
            have hx := Hrgfx.out wq
            have he : Ergf 8 (.pointer (some ⟨bl, ol + i * 2, none⟩)) wq := by rw [Hrgfe8.out]
            have HK := Lib.hid (And.intro hk (And.intro he hx))
            clear hk hx he
            go_simp
            exact HK.out
          · intro Lq wq xq hh
            have d8 : Ergf 8 (xq 8) wq := hh.val 8 (by kernel_rfl) (by kernel_rfl)
            rw [Hrgfe8.out] at d8
            simp only [hFrgf, d8]
            clear d8
            refine .inl ⟨rfl, ?_⟩
            unfold Reg.upon
            have hk := Hrgfk.out 9 Lq wq (by decide) (by decide)  hh.cls
            have hx := Hrgfx.out wq
            have he : Ergf 9 (.pointer (some ⟨bl, ol + i * 2 + 1, none⟩)) wq := by rw [Hrgfe9.out]
            have HK := Lib.hid (And.intro hk (And.intro he hx))
            clear hk hx he
            go_simp
            exact HK.out
          · intro Lq wq xq hh
            have d9 : Ergf 9 (xq 9) wq := hh.val 9 (by kernel_rfl) (by kernel_rfl)
            rw [Hrgfe9.out] at d9
            simp only [hFrgf, d9]
            clear d9
            refine .inl ⟨rfl, ?_⟩
            unfold Reg.upon
            have hc : Crgf Lq (xq 11) wq := hh.cls
            rw [HrgfhC.out] at hc
            have y1 := (hc.1.cell (p := ⟨bl, ol + i * 2 + 1, none⟩) HBL.out).trans HL1.out
            clear hc
            have hk := Hrgfk.out 10 Lq wq (by decide) (by decide)  hh.cls
            have hx := Hrgfx.out wq
            have he : Ergf 10 (.int .i64 b) wq := by rw [Hrgfe10.out]
            have HK := Lib.hid (And.intro hk (And.intro he hx))
            clear hk hx he
            go_simp
            exact HK.out
          · intro Lq wq xq hh
            have d0 : Ergf 0 (xq 0) wq := hh.val 0 (by kernel_rfl) (by kernel_rfl)
            rw [Hrgfe0.out] at d0
            have d5 : Ergf 5 (xq 5) wq := hh.val 5 (by kernel_rfl) (by kernel_rfl)
            rw [Hrgfe5.out] at d5
            have d10 : Ergf 10 (xq 10) wq := hh.val 10 (by kernel_rfl) (by kernel_rfl)
            rw [Hrgfe10.out] at d10
            simp only [hFrgf, d0, d5, d10]
            clear d0 d5 d10
            refine .inl ⟨rfl, ?_⟩
            unfold Reg.upon
            have hc : Crgf Lq (xq 11) wq := hh.cls
            rw [HrgfhC.out] at hc
            have hb := hc.2.1 (Mix.one_un (hh.notYet 12 (by kernel_rfl)))
            have hq := HQX.out.below hb
            have hrs := HRS.out (fun x => (¬ PZ wx gp gr2 R2 x ∧ x ≠ b8) ∧ x < wx.heap.size) wq ((HQX.out.2.2.1.zone (Y := fun x => (¬ PZ wx gp gr2 R2 x ∧ x ≠ b8) ∧ x < wx.heap.size) (fun x hx hz => ⟨hz, hx⟩)).below hb) (fun x hx => Nat.lt_of_lt_of_le hx.2 hb.size)
            rw [← HNL.out] at hrs
            go_simp
            refine hrs.mono ?_
            rintro e w2 ⟨v9, rfl, h9, b9⟩
            obtain ⟨o9, k9, ev9⟩ := h9.len
            rw [← HN9.out] at ev9
            subst ev9
            have hF : Crgf (Lq.setIfInBounds 11 true) (.agg #[.slice o9 n9 k9, .int .i64 rr, .int .i64 cc, .bool false, .bool au]) w2 := by
              rw [HrgfhC.out]
              refine ⟨hc.1.trans (b9.mono hc.1.size), fun _ => hb.trans (b9.mono hb.size), fun _ => ⟨o9, k9, rfl, fun _ => h9.zone (fun x _ hz => ?_)⟩, fun e => ?_⟩
              · rcases hz with hz | hz
                · exact .inl hz
                · exact .inr (Nat.le_trans hb.size hz.1)
              · rw [Mix.one_ne (by decide), Mix.one_un (hh.notYet 12 (by kernel_rfl))] at e
                exact absurd e (by decide)
            exact ⟨_, rfl, hF, (by rw [Hrgfe11.out]; trivial), (by rw [HrgfhX.out]; trivial)⟩
          · intro Lq wq xq hh
            have d11 : Ergf 11 (xq 11) wq := hh.val 11 (by kernel_rfl) (by kernel_rfl)
            rw [Hrgfe11.out] at d11
            simp only [hFrgf]
            refine .inl ⟨rfl, ?_⟩
            unfold Reg.upon
            have hc : Crgf Lq (xq 11) wq := hh.cls
            rw [HrgfhC.out] at hc
            have hb := hc.2.1 hh.un
            obtain ⟨o9, k9, e1, hz⟩ := hc.2.2.1 (hh.isDone 11 (by kernel_rfl))
            have hz := hz hh.un
            have hqb := (HQX.out.below hb).2.1
            have s0 := hqb.cell 0 _ rfl
            have s1 := hqb.cell 1 _ rfl
            have s2 := hqb.cell 2 _ rfl
            have s3 := hqb.cell 3 _ rfl
            have s4 := hqb.cell 4 _ rfl
            have f0 := hqb.free 0
            have f1 := hqb.free 1
            have f2 := hqb.free 2
            have f3 := hqb.free 3
            have f4 := hqb.free 4
            have q10 := QAt.put (r3 := rr) (c3 := cc) (pd3 := false) (au3 := au) HWB8.out HQX.out hb (hz.zone (Y := fun x => ((¬ PZ wx gp gr2 R2 x ∧ x ≠ b8) ∧ x < wx.heap.size) ∨ (wx.heap.size ≤ x ∧ x < wq.heap.size)) (fun x hx hy => by rcases hy with hy | hy; exact .inl hy; exact .inr ⟨hy, hx⟩))
            have hF : Crgf (Lq.setIfInBounds 12 true) (xq 11) (((((wq.setCell ⟨b8, 0, none⟩ (.slice o9 n9 k9)).setCell ⟨b8, 1, none⟩ (.int .i64 rr)).setCell ⟨b8, 2, none⟩ (.int .i64 cc)).setCell ⟨b8, 3, none⟩ (.bool false)).setCell ⟨b8, 4, none⟩ (.bool au)) := by
              rw [HrgfhC.out]
              refine ⟨q10.2.2.2, fun e => ?_, fun _ => ⟨o9, k9, e1, fun e => ?_⟩, fun _ => ⟨o9, k9, q10⟩⟩
              · rw [Mix.one_set (by rw [hh.size]; decide)] at e
                exact absurd e (by decide)
              · rw [Mix.one_set (by rw [hh.size]; decide)] at e
                exact absurd e (by decide)
            have hE : Ergf 12 undef (((((wq.setCell ⟨b8, 0, none⟩ (.slice o9 n9 k9)).setCell ⟨b8, 1, none⟩ (.int .i64 rr)).setCell ⟨b8, 2, none⟩ (.int .i64 cc)).setCell ⟨b8, 3, none⟩ (.bool false)).setCell ⟨b8, 4, none⟩ (.bool au)) := by rw [Hrgfe12.out]
            have hX : Xrgf wq (((((wq.setCell ⟨b8, 0, none⟩ (.slice o9 n9 k9)).setCell ⟨b8, 1, none⟩ (.int .i64 rr)).setCell ⟨b8, 2, none⟩ (.int .i64 cc)).setCell ⟨b8, 3, none⟩ (.bool false)).setCell ⟨b8, 4, none⟩ (.bool au)) := by rw [HrgfhX.out]; trivial
            rw [e1]
            clear hc hz hqb q10 hb
            go_simp
            exact ⟨hF, hE, hX⟩
        intro xq wrgf hcrgf hvrgf
        rw [HrgfhC.out] at hcrgf
        simp only [hFrgf]
        clear hvrgf hFrgf Hrgfk Hrgfx Hrgfst Hrgfc HrgfhC HrgfhX Hrgfb Hrgfxb Hrgfe0 Hrgfe1 Hrgfe2 Hrgfe3 Hrgfe4 Hrgfe5 Hrgfe6 Hrgfe7 Hrgfe8 Hrgfe9 Hrgfe10 Hrgfe11 Hrgfe12
        obtain ⟨o9, k9, hqf⟩ := hcrgf.2.2.2 (by kernel_rfl)
        have HQF := Lib.hid hqf
        have hqb := hqf.2.1
        rw [← HN9.out] at hqb
        have q0 := hqb.cell 0 _ rfl
        have q1 := hqb.cell 1 _ rfl
        have q2 := hqb.cell 2 _ rfl
        have q3 := hqb.cell 3 _ rfl
        have q4 := hqb.cell 4 _ rfl
        have hal := alike_any BP gp g2 gr2 nw R2 LP rr cc false au _ _ wrgf hqf.1 hqf.2.2.1
        rw [← HN9.out] at hal
        have HAL := Lib.hid hal
        clear hqb hal hqf hcrgf HQX HRS
        go_wp2_with fail
        refine HAL.out.mono ?_
        rintro e wz ⟨rfl, bz⟩
        have HZZ := Lib.hid (HQF.out.below bz)
        clear bz q0 q1 q2 q3 q4
        go_wp2
        go_roundw
        case rel => exact ⟨i + 1, g2, gr2, nw, R2, LP, rr, cc, false, o9, k9, by omega, by go_num, HZZ.out⟩
        case measure => simp [intOf] <;> omega
    · obtain rfl : i = m := by omega
      have j1 : decide ((i : Int) < (i : Int)) = false := by rw [decide_eq_false_iff_not]; omega
      have HF := Lib.hid HQ.out.2.2.2
      clear hq
      go_wp2
      go_ret
      exact ⟨(ret_eq (by first | rfl | (simp <;> omega))), HF.out⟩
set_option maxRecDepth 100000 in
theorem walk {H : Type} {enc : TypeId × Value → H} (W : World) (u : Value) {base : Nat} {d : DataW H} {p : List MemPlace} (hv : Value.okWide Tryd.prog W .any base 26 u) (h : DataW.Trod enc Tryd.prog W 0 (fun _ => true) true 26 u d p) (v : Value) {base' : Nat} {d' : DataW H} {p' : List MemPlace} (hv' : Value.okWide Tryd.prog W .any base' 27 v) (h' : DataW.Trod enc Tryd.prog W 0 (fun _ => true) true 27 v d' p') (_ : laidMetH Tryd.prog Rows.sizeTurnsRow.laid W) : Calls Tryd.prog 3 #[u, v] W (Yes W) := by
  have hE := opens_triple (P := Tryd.prog) Tryd.underlying26 (by kernel_rfl) rfl rfl rfl (opens_slice Tryd.underlying22 (by kernel_rfl) (by decide) (opens_pair Tryd.underlying56 (by kernel_rfl) rfl rfl (opens_slice Tryd.underlying54 (by kernel_rfl) (by decide) (opens_pair Tryd.underlying73 (by kernel_rfl) rfl rfl (opens_int (k := .i64) Tryd.underlying3 (by kernel_rfl)) (opens_slice Tryd.underlying58 (by kernel_rfl) (by decide) (opens_int (k := .i32) Tryd.underlying21 (by kernel_rfl))))) (opens_bool Tryd.underlying4 (by kernel_rfl)))) (opens_triple Tryd.underlying24 (by kernel_rfl) rfl rfl rfl (opens_int (k := .i64) Tryd.underlying3 (by kernel_rfl)) (opens_int (k := .i64) Tryd.underlying3 (by kernel_rfl)) (opens_bool Tryd.underlying4 (by kernel_rfl))) (opens_bool Tryd.underlying4 (by kernel_rfl))
  obtain ⟨cs, ⟨Ls, ⟨P, Q, S⟩, au⟩, rfl, ⟨C1, C2, hcs, ⟨tv, rfl, ht⟩, C3, C4, rfl, ⟨C5, C6, rfl, rfl, C7, C8, rfl, rfl, rfl⟩, rfl⟩, _⟩ := opens_struct Tryd.underlying26 hE hv h
  obtain rfl : cs = #[tv, .int .i64 P, .int .i64 Q, .bool S, .bool au] := by
    apply Array.toList_inj.1
    rw [hcs]
    rfl
  obtain ⟨A, hA, _⟩ := opens_arg (E := twoE) Tryd.underlying27 (by kernel_rfl) (by decide) (opens_arr2 (P := Tryd.prog) Tryd.underlying40 (by kernel_rfl) (opens_int (k := .i64) Tryd.underlying3 (by kernel_rfl))) hv' h'
  exact walkH W tv Ls P Q S au v A _ _ ht hA

theorem door_met (os : Os) : laidMetH Tryd.prog Rows.sizeTurnsRow.laid ((World.doorLaid Tryd.prog 400 os).forCall (fun _ _ => 0) ⟨#[], #[.agg #[.slice none 0 0, .int .i64 0, .int .i64 0, .bool false, .bool false], .slice none 0 0], []⟩).memory :=
  laidMetH_of_parts3 (fuel := 8) (laidMet_of_run' 8 (by kernel_rfl) (by kernel_rfl)) (by kernel_rfl) (by kernel_rfl)

set_option maxRecDepth 100000 in
theorem lifted (os : Os) (started : os.Started) (H : Type) (enc : TypeId × Value → H) :
    ReturnsInHanded {} Tryd.checked os 3 .any (fun w args => (Rows.sizeTurnsSpec.pre enc Tryd.prog Tryd.f3 [] false w args ∧ laidMetH Tryd.prog Rows.sizeTurnsRow.laid w) ∧ sizedMet enc Tryd.prog Tryd.f3 (OpenSpec.ofChange Rows.sizeTurnsSpec) false w args)
      (Rows.sizeTurnsSpec.post enc Tryd.prog Tryd.f3 false true false false) := by
  refine law_frame (C := Tryd.checked) (tb := 4) (by kernel_rfl) started (by kernel_rfl) Tryd.func3 (by kernel_rfl) (by kernel_rfl) Tryd.underlying4 rfl
    (by rw [Tryd.params3]; intro t ht; simp at ht; rcases ht with rfl | rfl <;> exact ⟨by kernel_rfl, of_decide_eq_true (by kernel_rfl)⟩)
    (by rw [Tryd.params3]; intro ds hd; match ds, hd with | [_, _], _ => rfl)
    (ChangeSpec.witness_shaped (enc := enc) (C := Tryd.checked) (os := os) (X := fun w _ => laidMetH Tryd.prog Rows.sizeTurnsRow.laid w) false (World.doorLaid Tryd.prog 400 os) #[.agg #[.slice none 0 0, .int .i64 0, .int .i64 0, .bool false, .bool false], .slice none 0 0] 8 rfl (World.shaped_of_RefB (by kernel_rfl) (by kernel_rfl)) (by kernel_rfl) (by kernel_rfl) (by kernel_rfl) (door_met os)) ?_
  intro W base args ds before hval hA hsz hL
  rw [Tryd.params3] at hA hval
  obtain ⟨v0, vs0, d0, ds0, p0, q0, hargs, rfl, rfl, h0, r0⟩ := trodAll_cons hA
  obtain ⟨v1, vs1, d1, ds1, p1, q1, rfl, rfl, rfl, h1, r1⟩ := trodAll_cons r0
  obtain ⟨rfl, rfl, rfl⟩ := trodAll_nil r1
  obtain rfl : args = #[v0, v1] := by cases args; simp_all

  exact walk W v0 (hval 0 26 v0 rfl rfl) h0 v1 (hval 1 27 v1 rfl rfl) h1 hL

theorem said : Rows.SizeTurnsSaid :=
  OpenClaim.holds_of_wide 3 Tryd.f3 rfl rfl rfl rfl rfl rfl rfl ⟨rfl, rfl, rfl, rfl, rfl⟩ rfl rfl rfl rfl rfl (by kernel_rfl) Tryd.func3 (by kernel_rfl)
    (of_decide_eq_true (by kernel_rfl)) (by unfold Func.isWrapper; first | (rw [if_pos (by decide +kernel)]; kernel_rfl) | (rw [if_neg (by decide +kernel)]; exact ⟨rfl, rfl⟩))
    (fun os started H enc _ => lifted os started H enc)

theorem plain (f : FuncId) (fn : Func) (hf : Tryd.pinned.checked.prog.funcNamed "linotype/linotypelaw39.SizeTurns" = some f) (hfn : Tryd.pinned.checked.prog.funcs[f]? = some fn) :
    true = Tryd.pinned.checked.prog.looks [] ∧ ∀ (j : Nat) t, fn.params[j]? = some t → Tryd.pinned.checked.prog.wantsStandIn t = false := by
  obtain rfl : f = 3 := Option.some.inj ((show Tryd.prog.funcNamed "linotype/linotypelaw39.SizeTurns" = some 3 by kernel_rfl).symm.trans hf) |>.symm
  obtain rfl : fn = Tryd.f3 := (Option.some.inj (Tryd.func3.symm.trans hfn)).symm
  refine ⟨by kernel_rfl, fun j t ht => ?_⟩
  rw [Tryd.params3] at ht
  have hm : t ∈ [26, 27] := by simpa using Array.mem_of_getElem? ht
  have hall : ([26, 27].all fun u => !Tryd.prog.wantsStandIn u) = true := by kernel_rfl
  exact (show Tryd.prog.wantsStandIn t = false by simpa using List.all_eq_true.1 hall t hm)

/-- THE CARD. -/
theorem card : Rows.SizeTurnsCardSaid :=
  Claim7.holds_tied_plain_at .later [] _ _ _ _ said (fun _ h => by cases h) (by kernel_rfl) (fun _ h => by cases h) sizeTurns_row_tie rfl ⟨rfl, rfl⟩ (by kernel_rfl) rfl plain (by kernel_rfl)
#print axioms card

end Go.Proofs.YtgndolgihplngaaDoor.lawSizeTurns
