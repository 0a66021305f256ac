/- EditPlays (38.1) answers true at all lines, cursors, marks and every list of edits, and turns nothing. No condition. -/
import Derived.Test.YtgndolgihplngaaGreatDoorEdtT
import Derived.Test.YtgndolgihplngaaGreatDoorEdtW
import Derived.Test.YtgndolgihplngaaGreatDoorMg8
import Derived.Test.YtgndolgihplngaaGreatDoorMg5
import Derived.Test.YtgndolgihplngaaGreatDoorMg1
import Derived.Test.YtgndolgihplngaaGreatDoorCellS
import Derived.Test.YtgndolgihplngaaGreatDoorCards
import Derived.Test.YtgndolgihplngaaGreatDoorTie
import Derived.ProofKit
import Derived.Lib.MinMax
namespace Go.Proofs.YtgndolgihplngaaGreatDoor.lawEditPlays
open Go.ChangeShapes Go.WideShapes Go.ChangeAt Go.RowKit
abbrev Op4 := Int × Int × Int × List Int
def opE : Elem Op4 := prE (intE .i64) (prE (intE .i64) (prE (intE .i64) (slE (intE .u8))))
abbrev zo : Op4 := (0, 0, 0, [])
theorem ops_at {Z : Zone} {w : World} {ao : Option Addr} {n cap : Nat} {L : List Op4} (h : HeldE opE Z w (.slice ao n cap) L) : n = L.length ∧ n ≤ cap ∧ ∀ i, i < L.length → ∃ b off bo bn bk, ao = some ⟨b, off, none⟩ ∧ b < w.heap.size ∧
    w.cell? ⟨b, off + i * 4, none⟩ = some (.int .i64 (L.getD i zo).1) ∧ w.cell? ⟨b, off + i * 4 + 1, none⟩ = some (.int .i64 (L.getD i zo).2.1) ∧ w.cell? ⟨b, off + i * 4 + 2, none⟩ = some (.int .i64 (L.getD i zo).2.2.1) ∧ w.cell? ⟨b, off + i * 4 + 3, none⟩ = some (.slice bo bn bk) := by
  obtain ⟨h1, h2, h3⟩ := h.spots
  refine ⟨h1, h2, fun i hi => ?_⟩
  obtain ⟨b, off, rfl, hb, hz, C, hC, hr⟩ := h3 i hi
  obtain ⟨C1, C2, rfl, rfl, C3, C4, rfl, rfl, C5, C6, rfl, rfl, ⟨v, rfl, ht⟩⟩ := hr
  obtain ⟨bo, bk, rfl⟩ := ht.len
  exact ⟨b, off, bo, _, bk, rfl, hb, hC 0 (by decide), hC 1 (by decide), hC 2 (by decide), hC 3 (by decide)⟩
set_option maxRecDepth 100000 in
set_option maxHeartbeats 20000000 in
theorem walkH (W : World) (va vb : Value) (Ls : List Ln) (P Q : Int) (S au : Bool) (A : List Op4) (Z Y : Zone) (ha : HeldE lineE Z W va Ls) (hvb : HeldE opE Y W vb A) (sa : Nat → Addr) (hsa : Sents W sa) : Calls Tryz.prog 3 #[.agg #[va, .int .i64 P, .int .i64 Q, .bool S, .bool au], vb] W (Yes W) := by
  have hla := ha.max
  have hlb := hvb.max
  have ha := ha.lower
  obtain ⟨ao, ca, rfl⟩ := ha.len
  obtain ⟨lo, lc, rfl⟩ := hvb.len
  obtain ⟨n, hn⟩ : ∃ n, n = Ls.length := ⟨_, rfl⟩
  obtain ⟨m, hm⟩ : ∃ m, m = A.length := ⟨_, rfl⟩
  have HN := Lib.hid hn
  have HMM := Lib.hid hm
  rw [← hn] at ha hla ⊢
  rw [← hm] at hvb hlb ⊢
  have HA := Lib.hid ha
  have HLA := Lib.hid hvb
  have HSA := Lib.hid hsa
  have HWR := Lib.hid (show ∀ w', Below W.heap.size W w' → Calls Tryz.prog 4 #[.slice ao n ca] w' (WrongTold w' Ls) from fun w' h => rlwrong_any _ _ Ls w' (HA.out.below h))
  have hb0 := (Below.refl W.heap.size W).alloc (Nat.le_refl _) (.cells [Value.slice ao n ca, .int .i64 P, .int .i64 Q, .bool S, .bool au].toArray 26)
  have hn0 := Has.new W [Value.slice ao n ca, .int .i64 P, .int .i64 Q, .bool S, .bool au] 26
  obtain ⟨W0, hW0⟩ : ∃ W0, W0 = W.alloc (.cells [Value.slice ao n ca, .int .i64 P, .int .i64 Q, .bool S, .bool au].toArray 26) := ⟨_, rfl⟩
  rw [← hW0] at hb0 hn0
  have hW0' : W0 = W.alloc (.cells #[Value.slice ao n ca, .int .i64 P, .int .i64 Q, .bool S, .bool au] 26) := hW0
  obtain ⟨gx, hgx⟩ : ∃ gx, gx = W.heap.size := ⟨_, rfl⟩
  have HGX := Lib.hid hgx
  rw [← hgx] at hn0
  have HB0 := Lib.hid hb0
  have HX0 := Lib.hid hn0
  clear ha hvb hn hm hb0 hn0 hW0 hgx hsa
  go_enter Tryz.func3, Tryz.ntmps3
  go_upto_region 1 with (fail)
  rw [← hW0', ← HGX.out]
  clear hW0'
  have x0 := HX0.out.cell 0 _ rfl
  go_wp2_with fail
  refine (HWR.out W0 HB0.out).mono ?_
  rintro e w0 hq
  obtain ⟨at_, acc, rfl, hat, b0⟩ := hq.say
  clear hq
  have HA0 := Lib.hid hat
  have B2 := Lib.hid (HB0.out.trans (b0.mono HB0.out.size))
  have HX1 := Lib.hid (HX0.out.below b0 HX0.out.lt)
  clear b0 hat x0 HX0
  go_wp2_with fail
  refine (works38_any sa _ (HSA.out.below B2.out)).mono ?_
  rintro e w2 ⟨rfl, b2⟩
  have B3 := Lib.hid (B2.out.trans (b2.mono B2.out.size))
  have HX2 := Lib.hid (HX1.out.below b2 HX1.out.lt)
  have d1 := HX2.out.cell 0 _ rfl
  clear b2 HX1 B2
  by_cases h1 : 20 < n
  · have hd : decide ((20 : Int) < n) = true := by rw [decide_eq_true_eq]; omega
    have hdn : decide (20 < n) = true := by rw [decide_eq_true_eq]; omega
    go_wp2_with fail
    refine (works38_any sa _ (HSA.out.below B3.out)).mono ?_
    rintro e w3 ⟨rfl, b3⟩
    have BB := B3.out.trans (b3.mono B3.out.size)
    go_wp2
    go_ret
    exact ⟨(ret_eq (by first | rfl | (simp <;> omega))), BB⟩

  have hd20 : decide ((20 : Int) < n) = false := by rw [decide_eq_false_iff_not]; omega
  have hd20n : decide (20 < n) = false := by rw [decide_eq_false_iff_not]; omega
  by_cases h0 : n = 0
  · have hz : ((n : Int) == 0) = true := by rw [beq_iff_eq]; omega
    clear h0 h1
    go_wp2_with fail
    refine (works38_any sa _ (HSA.out.below B3.out)).mono ?_
    rintro e w3 ⟨rfl, b3⟩
    have BB := B3.out.trans (b3.mono B3.out.size)
    go_wp2
    go_ret
    exact ⟨(ret_eq (by first | rfl | (simp <;> omega))), BB⟩

  have hz : ((n : Int) == 0) = false := by rw [beq_eq_false_iff_ne]; omega
  by_cases hall : AllGood Ls
  rotate_left
  · have hge : decide ((0 : Int) ≤ at_) = true := by rw [decide_eq_true_eq]; rcases HA0.out with h | h; exact absurd h.1 hall; exact h.1
    go_wp2_with fail
    refine (works38_any sa _ (HSA.out.below B3.out)).mono ?_
    rintro e w3 ⟨rfl, b3⟩
    have BB := B3.out.trans (b3.mono B3.out.size)
    go_wp2
    go_ret
    exact ⟨(ret_eq (by first | rfl | (simp <;> omega))), BB⟩

  obtain rfl : at_ = -1 := by rcases HA0.out with h | h; exact h.2; exact absurd hall h.2
  by_cases h6 : 60 < m
  · have hd : decide ((60 : Int) < m) = true := by rw [decide_eq_true_eq]; omega
    have hdn : decide (60 < m) = true := by rw [decide_eq_true_eq]; omega
    go_wp2_with fail
    refine (works38_any sa _ (HSA.out.below B3.out)).mono ?_
    rintro e w3 ⟨rfl, b3⟩
    have BB := B3.out.trans (b3.mono B3.out.size)
    go_wp2
    go_ret
    exact ⟨(ret_eq (by first | rfl | (simp <;> omega))), BB⟩

  have hd60 : decide ((60 : Int) < m) = false := by rw [decide_eq_false_iff_not]; omega
  have hd60n : decide (60 < m) = false := by rw [decide_eq_false_iff_not]; omega
  have HM60 := Lib.hid (show m ≤ 60 from by omega)
  have HN20 := Lib.hid (show 0 < n ∧ n ≤ 20 from by omega)
  have HALL := Lib.hid hall
  have hg := gof_good _ _ Ls w2 HALL.out (HA.out.below B3.out) (by rw [← HN.out]; omega) (by rw [← HN.out]; omega)
  have HG := Lib.hid hg
  clear hall hg HA0 HWR h1 h0 h6
  go_wp2_with fail
  refine HG.out.mono ?_
  rintro e w3 ⟨gg, gr, Rs, rfl, hg3, hm3, b3⟩
  have hb4 := (Below.refl w3.heap.size w3).alloc (Nat.le_refl _) (.cells [Value.pointer (some ⟨gg, 0, none⟩), .int .i64 P, .int .i64 Q, .bool S, .bool au].toArray 38)
  have hn4 := Has.new w3 [Value.pointer (some ⟨gg, 0, none⟩), .int .i64 P, .int .i64 Q, .bool S, .bool au] 38
  obtain ⟨W4, hW4⟩ : ∃ W4, W4 = w3.alloc (.cells [Value.pointer (some ⟨gg, 0, none⟩), .int .i64 P, .int .i64 Q, .bool S, .bool au].toArray 38) := ⟨_, rfl⟩
  rw [← hW4] at hb4 hn4
  obtain ⟨gp, hgp⟩ : ∃ gp, gp = w3.heap.size := ⟨_, rfl⟩
  rw [← hgp] at hn4
  obtain ⟨wd, hwd⟩ : ∃ wd, wd = firstN Ls := ⟨_, rfl⟩
  rw [← hwd] at hg3
  obtain ⟨BP, hBP⟩ : ∃ BP, BP = w2.heap.size := ⟨_, rfl⟩
  have hpa : PenAt W4 BP gp gg gr wd Rs Ls P Q S au := ⟨hn4, by rw [hBP, hgp]; exact b3.size, by rw [hBP]; exact hg3.below hb4, hm3⟩
  have HW4 := Lib.hid (show W4 = w3.alloc (.cells #[Value.pointer (some ⟨gg, 0, none⟩), .int .i64 P, .int .i64 Q, .bool S, .bool au] 38) from hW4)
  have HGP := Lib.hid hgp
  have HP4 := Lib.hid hpa
  have HBP := Lib.hid (show W.heap.size ≤ BP from by rw [hBP]; exact B3.out.size)
  have HX4 := Lib.hid ((HX2.out.below b3 HX2.out.lt).below hb4 (Nat.lt_of_lt_of_le HX2.out.lt b3.size))
  have B4 := Lib.hid ((B3.out.trans (b3.mono B3.out.size)).trans (hb4.mono (Nat.le_trans B3.out.size b3.size)))
  have h73 := HX2.out.below b3 HX2.out.lt
  have z1 := h73.cell 1 _ rfl
  have z2 := h73.cell 2 _ rfl
  have z3 := h73.cell 3 _ rfl
  have z4 := h73.cell 4 _ rfl
  have hb6 := (Below.refl W4.heap.size W4).alloc (Nat.le_refl _) (.cells [Value.slice ao n ca, .int .i64 P, .int .i64 Q, .bool S, .bool au].toArray 39)
  have hn6 := Has.new W4 [Value.slice ao n ca, .int .i64 P, .int .i64 Q, .bool S, .bool au] 39
  obtain ⟨W6, hW6⟩ : ∃ W6, W6 = W4.alloc (.cells [Value.slice ao n ca, .int .i64 P, .int .i64 Q, .bool S, .bool au].toArray 39) := ⟨_, rfl⟩
  rw [← hW6] at hb6 hn6
  obtain ⟨b8, hb8⟩ : ∃ b8, b8 = W4.heap.size := ⟨_, rfl⟩
  rw [← hb8] at hn6
  have HW6 := Lib.hid (show W6 = W4.alloc (.cells #[Value.slice ao n ca, .int .i64 P, .int .i64 Q, .bool S, .bool au] 39) from hW6)
  have HB8 := Lib.hid hb8
  have HWB8 := Lib.hid (show W.heap.size ≤ b8 from by rw [hb8]; exact B4.out.size)
  have HWB := HBP
  have HQ0 := Lib.hid (show QAt W BP gp gg gr wd b8 Rs Ls P Q S au Ls P Q S au ao ca W6 from by
    have hp6 := hpa.below hb6
    have hB6 : BP ≤ W6.heap.size := Nat.le_trans hpa.2.1 (Nat.le_trans (Nat.le_of_lt hpa.lt) hb6.size)
    refine ⟨hp6, by rw [← HN.out]; exact hn6, ?_, B4.out.trans (hb6.mono B4.out.size)⟩
    rw [← HN.out]
    exact (((HA.out.zone (Y := fun x => x < W.heap.size) (fun x hx _ => hx)).below B4.out).below hb6).zone (fun x _ hz => ⟨fun e => by have := pz_ge hp6 hB6 x e; have := HBP.out; omega, by have := HWB8.out; omega⟩))
  clear hb6 hn6 hW6 hb8 hpa hW4 hgp hwd hBP hb4 hn4 hg3 hm3 b3 h73 HG
  go_upto_region 8 with (fail)
  rw [← HW4.out, ← HGP.out]
  clear z1 z2 z3 z4 d1
  have y0 := HX4.out.cell 0 _ rfl
  have y1 := HX4.out.cell 1 _ rfl
  have y2 := HX4.out.cell 2 _ rfl
  have y3 := HX4.out.cell 3 _ rfl
  have y4 := HX4.out.cell 4 _ rfl
  go_upto_region 9 with (fail)
  rw [← HW6.out, ← HB8.out]
  clear y0 y1 y2 y3 y4
  go_wp2
  go_loopw [11] (fun iv wr => ∃ (i : Nat) (R : List Rw) (Lx : List Ln) (r c : Int) (pd au : Bool) (o : Option Addr) (k : Nat), i ≤ m ∧ iv = .int .i64 i ∧ QAt W BP gp gg gr wd b8 R Lx r c pd au Lx r c pd au o k wr ∧ Lx.length = n) (fun iv _ => m - (intOf iv).toNat)
  case atStart => exact ⟨0, Rs, Ls, P, Q, S, au, ao, ca, Nat.zero_le _, rfl, HQ0.out, HN.out.symm⟩
  case round =>
    clear HQ0 HX4 HP4
    obtain ⟨i, R, Lx, r, c, pd, au, o, k, hi, rfl, hq, hlx⟩ := hrel
    obtain ⟨wq, hwq⟩ : ∃ wq, wq = wr := ⟨_, rfl⟩
    subst hwq
    have HQ := Lib.hid hq
    have HLX := Lib.hid hlx
    by_cases hlt : i < m
    · have j1 : decide ((i : Int) < (m : Int)) = true := by rw [decide_eq_true_eq]; omega
      have j2 : decide (i < m) = true := by rw [decide_eq_true_eq]; omega
      have hii : (i : Int) < (m : Int) := by omega
      have hik : i < lc := by have := (ops_at HLA.out).2.1; omega
      have hwj : IntKind.i64.wrap ((i : Int) + 1) = (i : Int) + 1 := by rw [IntKind.wrap_i64]; have := HM60.out; omega
      obtain ⟨bl, ol, bo, bn, bk, rfl, hbl, c0, c1, c2, c3⟩ := (ops_at HLA.out).2.2 i (by rw [← HMM.out]; exact hlt)
      obtain ⟨⟨K, E, C, T⟩, hab⟩ : ∃ y, y = A.getD i zo := ⟨_, rfl⟩
      rw [← hab] at c0 c1 c2
      simp only at c0 c1 c2
      have HL0 := Lib.hid c0
      have HL1 := Lib.hid c1
      have HL2 := Lib.hid c2
      have HL3 := Lib.hid c3
      have HBL := Lib.hid hbl
      have hs := hq.1.sizes
      have HEV := Lib.hid (show Even Lx wd from ⟨hs.1, by rw [hlx]; have := HN20.out; omega, hs.2.2.1, hs.2.2.2.1, hs.2.2.2.2.2⟩)
      obtain ⟨r2, hr2, hlr⟩ := in_nat r hs.1 hs.2.1
      obtain ⟨c2', hc2, hlc⟩ := in_nat c hs.2.2.1 hs.2.2.2.1
      have HR2 := Lib.hid hr2
      have HC2 := Lib.hid hc2
      have HLR := Lib.hid hlr
      have HLC := Lib.hid hlc
      have HBW := Lib.hid (show ∀ w', Below W.heap.size W w' → w'.cell? ⟨bl, ol + i * 4, none⟩ = some (.int .i64 K) ∧ w'.cell? ⟨bl, ol + i * 4 + 1, none⟩ = some (.int .i64 E) ∧ w'.cell? ⟨bl, ol + i * 4 + 2, none⟩ = some (.int .i64 C) ∧ w'.cell? ⟨bl, ol + i * 4 + 3, none⟩ = some (.slice bo bn bk) from fun w' hb => ⟨(hb.cell (p := ⟨bl, ol + i * 4, none⟩) HBL.out).trans HL0.out, (hb.cell (p := ⟨bl, ol + i * 4 + 1, none⟩) HBL.out).trans HL1.out, (hb.cell (p := ⟨bl, ol + i * 4 + 2, none⟩) HBL.out).trans HL2.out, (hb.cell (p := ⟨bl, ol + i * 4 + 3, none⟩) HBL.out).trans HL3.out⟩)
      have hBQ : BP ≤ wq.heap.size := Nat.le_trans hq.1.2.1 (Nat.le_of_lt hq.1.lt)
      have HBQ := Lib.hid hBQ
      obtain ⟨z0, z1, z2, z3⟩ := HBW.out wq hq.2.2.2
      clear hq hr2 hc2 hlr hlc hs c0 c1 c2 c3 hab hbl hBQ hlx
      have hrw := rwr_any K E C bo bn bk wq
      rcases wrC_cases K E with ⟨hw, hkn⟩ | ⟨hw, hkn, hrn⟩ | ⟨hw, hkn⟩
      · rw [hw] at hrw
        have HRW := Lib.hid hrw
        have HW0 := Lib.hid (show wrC K E = 4 + 1 from hw)
        have HKN := Lib.hid hkn
        clear hrw hw hkn
        go_wp2_with fail
        refine HRW.out.mono ?_
        rintro e w9 ⟨rfl, b9⟩
        have HS := Lib.hid (HQ.out.below b9)
        clear b9 z0 z1 z2 z3 HRW
        have HWX := Lib.hid (show Calls Tryz.prog 10 #[.agg #[.int .i64 K, .int .i64 E, .int .i64 C, .slice bo bn bk]] w9 (Gives w9 (.iface 151 (.pointer (some (sa 4))))) from (ewrong_bad sa K E C bo bn bk w9 (HSA.out.below HS.out.2.2.2) 4 HW0.out).2)
        obtain ⟨z0, z1, z2, z3⟩ := HBW.out _ HS.out.2.2.2
        go_wp2_with fail
        refine HWX.out.mono ?_
        rintro e wa ⟨rfl, ba⟩
        have HS2 := Lib.hid (HS.out.below ba)
        clear ba HWX z0 z1 z2 z3
        have HCD := Lib.hid (code_sent sa wa (HSA.out.below HS2.out.2.2.2) 4 (by decide))
        obtain ⟨z0, z1, z2, z3⟩ := HBW.out _ HS2.out.2.2.2
        go_wp2_with fail
        refine HCD.out.mono ?_
        rintro e wz ⟨rfl, rfl⟩
        have HDO := Lib.hid (edo_bad sa (some ⟨gp, 0, none⟩) K E C bo bn bk wa (HSA.out.below HS2.out.2.2.2) 4 HW0.out)
        go_wp2_with fail
        refine HDO.out.mono ?_
        rintro e wb ⟨rfl, kb⟩
        have hq3 := HS2.out.below kb
        have HS3 := Lib.hid hq3
        clear kb hq3 HDO HCD z0 z1 z2 z3
        have HCD := Lib.hid (code_sent sa wb (HSA.out.below HS3.out.2.2.2) 4 (by decide))
        obtain ⟨z0, z1, z2, z3⟩ := HBW.out _ HS3.out.2.2.2
        go_wp2_with fail
        refine HCD.out.mono ?_
        rintro e wz ⟨rfl, rfl⟩
        have HDN := Lib.hid (edo_bad sa none K E C bo bn bk wb (HSA.out.below HS3.out.2.2.2) 4 HW0.out)
        go_wp2_with fail
        refine HDN.out.mono ?_
        rintro e wc ⟨rfl, bc⟩
        have HS4 := Lib.hid (HS3.out.below bc)
        clear bc HDN HCD z0 z1 z2 z3
        have HCD := Lib.hid (code_sent sa wc (HSA.out.below HS4.out.2.2.2) 4 (by decide))
        obtain ⟨z0, z1, z2, z3⟩ := HBW.out _ HS4.out.2.2.2
        go_wp2_with fail
        refine HCD.out.mono ?_
        rintro e wz ⟨rfl, rfl⟩
        have HDS := Lib.hid (edoes_no K HKN.out wc)
        go_wp2_with fail
        refine HDS.out.mono ?_
        rintro e wz ⟨rfl, rfl⟩
        clear z0 z1 z2 z3 HCD HDS
        have hqb := HS4.out.2.1
        rw [HLX.out] at hqb
        have q0 := hqb.cell 0 _ rfl
        have q1 := hqb.cell 1 _ rfl
        have q2 := hqb.cell 2 _ rfl
        have q3 := hqb.cell 3 _ rfl
        have q4 := hqb.cell 4 _ rfl
        have hal := alike_any BP gp gg gr wd _ Lx r c pd au _ _ wc HS4.out.1 HS4.out.2.2.1
        rw [HLX.out] at hal
        have HAL := Lib.hid hal
        clear hal hqb
        go_wp2_with fail
        refine HAL.out.mono ?_
        rintro e wz ⟨rfl, bz⟩
        have HZZ := Lib.hid (HS4.out.below bz)
        clear bz q0 q1 q2 q3 q4
        go_wp2
        go_roundw
        case rel => exact ⟨i + 1, _, _, _, _, _, _, _, _, by omega, by go_num, HZZ.out, HLX.out⟩
        case measure => simp [intOf] <;> omega
      · rw [hw] at hrw
        have HRW := Lib.hid hrw
        have HW0 := Lib.hid (show wrC K E = 2 + 1 from hw)
        have HKN := Lib.hid (show 2 ≤ K ∧ K ≤ 12 from by omega)
        clear hrw hw hkn hrn
        go_wp2_with fail
        refine HRW.out.mono ?_
        rintro e w9 ⟨rfl, b9⟩
        have HS := Lib.hid (HQ.out.below b9)
        clear b9 z0 z1 z2 z3 HRW
        have HWX := Lib.hid (show Calls Tryz.prog 10 #[.agg #[.int .i64 K, .int .i64 E, .int .i64 C, .slice bo bn bk]] w9 (Gives w9 (.iface 151 (.pointer (some (sa 2))))) from (ewrong_bad sa K E C bo bn bk w9 (HSA.out.below HS.out.2.2.2) 2 HW0.out).2)
        obtain ⟨z0, z1, z2, z3⟩ := HBW.out _ HS.out.2.2.2
        go_wp2_with fail
        refine HWX.out.mono ?_
        rintro e wa ⟨rfl, ba⟩
        have HS2 := Lib.hid (HS.out.below ba)
        clear ba HWX z0 z1 z2 z3
        have HCD := Lib.hid (code_sent sa wa (HSA.out.below HS2.out.2.2.2) 2 (by decide))
        obtain ⟨z0, z1, z2, z3⟩ := HBW.out _ HS2.out.2.2.2
        go_wp2_with fail
        refine HCD.out.mono ?_
        rintro e wz ⟨rfl, rfl⟩
        have HDO := Lib.hid (edo_bad sa (some ⟨gp, 0, none⟩) K E C bo bn bk wa (HSA.out.below HS2.out.2.2.2) 2 HW0.out)
        go_wp2_with fail
        refine HDO.out.mono ?_
        rintro e wb ⟨rfl, kb⟩
        have hq3 := HS2.out.below kb
        have HS3 := Lib.hid hq3
        clear kb hq3 HDO HCD z0 z1 z2 z3
        have HCD := Lib.hid (code_sent sa wb (HSA.out.below HS3.out.2.2.2) 2 (by decide))
        obtain ⟨z0, z1, z2, z3⟩ := HBW.out _ HS3.out.2.2.2
        go_wp2_with fail
        refine HCD.out.mono ?_
        rintro e wz ⟨rfl, rfl⟩
        have HDN := Lib.hid (edo_bad sa none K E C bo bn bk wb (HSA.out.below HS3.out.2.2.2) 2 HW0.out)
        go_wp2_with fail
        refine HDN.out.mono ?_
        rintro e wc ⟨rfl, bc⟩
        have HS4 := Lib.hid (HS3.out.below bc)
        clear bc HDN HCD z0 z1 z2 z3
        have HCD := Lib.hid (code_sent sa wc (HSA.out.below HS4.out.2.2.2) 2 (by decide))
        obtain ⟨z0, z1, z2, z3⟩ := HBW.out _ HS4.out.2.2.2
        go_wp2_with fail
        refine HCD.out.mono ?_
        rintro e wz ⟨rfl, rfl⟩
        have HDS := Lib.hid (edoes_yes K HKN.out.1 HKN.out.2 wc)
        go_wp2_with fail
        refine HDS.out.mono ?_
        rintro e wz ⟨rfl, rfl⟩
        clear z0 z1 z2 z3 HCD HDS
        have hqb := HS4.out.2.1
        rw [HLX.out] at hqb
        have q0 := hqb.cell 0 _ rfl
        have q1 := hqb.cell 1 _ rfl
        have q2 := hqb.cell 2 _ rfl
        have q3 := hqb.cell 3 _ rfl
        have q4 := hqb.cell 4 _ rfl
        have hal := alike_any BP gp gg gr wd _ Lx r c pd au _ _ wc HS4.out.1 HS4.out.2.2.1
        rw [HLX.out] at hal
        have HAL := Lib.hid hal
        clear hal hqb
        go_wp2_with fail
        refine HAL.out.mono ?_
        rintro e wz ⟨rfl, bz⟩
        have HZZ := Lib.hid (HS4.out.below bz)
        clear bz q0 q1 q2 q3 q4
        go_wp2
        go_roundw
        case rel => exact ⟨i + 1, _, _, _, _, _, _, _, _, by omega, by go_num, HZZ.out, HLX.out⟩
        case measure => simp [intOf] <;> omega
      · rw [hw] at hrw
        have HRW := Lib.hid hrw
        have HW0 := Lib.hid hw
        have HKN := Lib.hid (show 2 ≤ K ∧ K ≤ 12 from by omega)
        obtain ⟨LP, hLP⟩ : ∃ LP, LP = edL Lx r2 c2' K E := ⟨_, rfl⟩
        obtain ⟨rr, hrr⟩ : ∃ rr, rr = edR r2 K E Lx.length := ⟨_, rfl⟩
        obtain ⟨cc, hcc⟩ : ∃ cc, cc = edC c2' K C wd := ⟨_, rfl⟩
        obtain ⟨uu, huu⟩ : ∃ uu, uu = edU K E au := ⟨_, rfl⟩
        have HLP := Lib.hid (show LP.length = n from by rw [hLP, edL_len, HLX.out])
        have HPS := Lib.hid (show ∀ w', PenAt w' BP gp gg gr wd R Lx r c pd au → Calls Tryz.prog 11 #[.pointer (some ⟨gp, 0, none⟩), .agg #[.int .i64 K, .int .i64 E, .int .i64 C, .slice bo bn bk]] w' (fun e w2 => e = .returned .nilIface ∧ PDo w' BP gp gg gr wd R LP rr cc false uu w2) from fun w' h => by
          rw [hLP, hrr, hcc, huu]
          exact edo_any BP gp gg gr wd R Lx r c pd au K E C bo bn bk w' h r2 c2' HR2.out HC2.out HLR.out HW0.out)
        have HRS := Lib.hid (show ∀ (Zq : Zone) w', HeldE lineE Zq w' (.slice o Lx.length k) Lx → (∀ b, Zq b → b < w'.heap.size) → Calls Tryz.prog 8 #[.agg #[.slice o Lx.length k, .int .i64 r, .int .i64 c, .bool pd, .bool au], .agg #[.int .i64 K, .int .i64 E, .int .i64 C, .slice bo bn bk]] w' (RPen Zq w' LP rr cc false uu) from fun Zq w' h1 h2 => by
          rw [hLP, hrr, hcc, huu]
          exact redo_any Zq (.slice o Lx.length k) Lx r c pd au K E C bo bn bk w' h1 h2 wd HEV.out r2 c2' HR2.out HC2.out HLR.out HW0.out)
        rw [HLX.out] at HRS
        clear hrw hw hkn hLP hrr hcc huu
        go_wp2_with fail
        refine HRW.out.mono ?_
        rintro e wx ⟨rfl, b9⟩
        have HQX := Lib.hid (HQ.out.below b9)
        clear b9 z0 z1 z2 z3 HRW
        go_upto_region 14 with (fail)
        obtain ⟨Ergf, hErgf⟩ : ∃ EE : Nat → Value → World → Prop, EE = fun jj xx ww => match jj with
            | 0 => xx = .agg #[.slice o n k, .int .i64 r, .int .i64 c, .bool pd, .bool au]
            | 1 => xx = .slice (some ⟨bl, ol, none⟩) m lc
            | 2 => xx = .int .i64 i
            | 3 => xx = .pointer (some ⟨bl, ol + i * 4, none⟩)
            | 4 => xx = .agg #[.int .i64 K, .int .i64 E, .int .i64 C, .slice bo bn bk]
            | 5 => (fun x w' => True) xx ww
            | 6 => xx = undef
            | _ => True := ⟨_, rfl⟩
        have ergf0 : ∀ xx ww, Ergf 0 xx ww = (xx = .agg #[.slice o n k, .int .i64 r, .int .i64 c, .bool pd, .bool au]) := fun xx ww => congrFun (congrFun (congrFun hErgf 0) xx) ww
        have ergf1 : ∀ xx ww, Ergf 1 xx ww = (xx = .slice (some ⟨bl, ol, none⟩) m lc) := fun xx ww => congrFun (congrFun (congrFun hErgf 1) xx) ww
        have ergf2 : ∀ xx ww, Ergf 2 xx ww = (xx = .int .i64 i) := fun xx ww => congrFun (congrFun (congrFun hErgf 2) xx) ww
        have ergf3 : ∀ xx ww, Ergf 3 xx ww = (xx = .pointer (some ⟨bl, ol + i * 4, none⟩)) := fun xx ww => congrFun (congrFun (congrFun hErgf 3) xx) ww
        have ergf4 : ∀ xx ww, Ergf 4 xx ww = (xx = .agg #[.int .i64 K, .int .i64 E, .int .i64 C, .slice bo bn bk]) := fun xx ww => congrFun (congrFun (congrFun hErgf 4) xx) ww
        have ergf5 : ∀ xx ww, Ergf 5 xx ww = ((fun x w' => True) xx ww) := fun xx ww => congrFun (congrFun (congrFun hErgf 5) xx) ww
        have ergf6 : ∀ xx ww, Ergf 6 xx ww = (xx = undef) := fun xx ww => congrFun (congrFun (congrFun hErgf 6) xx) ww
        obtain ⟨Crgf, hCrgf⟩ : ∃ CC : Array Bool → Value → World → Prop, CC = fun L8 x w' => Below W.heap.size W w' ∧ (Mix.one L8 6 = 0 → Below wx.heap.size wx w') ∧ (Mix.one L8 5 = 1 → ∃ o9 k9, x = .agg #[.slice o9 n k9, .int .i64 rr, .int .i64 cc, .bool false, .bool uu] ∧ (Mix.one L8 6 = 0 → HeldE lineE (fun b => ((¬ PZ wx gp gr R b ∧ b ≠ b8) ∧ b < wx.heap.size) ∨ wx.heap.size ≤ b) w' (.slice o9 n k9) LP)) ∧ (Mix.one L8 6 = 1 → ∃ o9 k9, QAt W BP gp gg gr wd b8 R Lx r c pd au LP rr cc false uu o9 k9 w') := ⟨_, rfl⟩
        have krgf : ∀ i L {x : Value} w, i ≠ 5 → i ≠ 6 →  Crgf L x w → Crgf (L.setIfInBounds i true) x w := by
          intro i L x w q5 q6 h
          rw [hCrgf] at h ⊢
          simp only [Mix.one_ne q5, Mix.one_ne q6]; exact h
        obtain ⟨Xrgf, hXrgf⟩ : ∃ XX : World → World → Prop, XX = fun _ _ => True := ⟨_, rfl⟩
        have xrgf : ∀ w, Xrgf w w := fun w => by rw [hXrgf]; exact trivial
        have strgf : ∀ j x w w1, Xrgf w w1 → Ergf j x w → Ergf j x w1 := by
          intro j x w w1 hx h
          rw [hXrgf] at hx
          match j with
          | 0 => rw [ergf0] at h ⊢; exact h
          | 1 => rw [ergf1] at h ⊢; exact h
          | 2 => rw [ergf2] at h ⊢; exact h
          | 3 => rw [ergf3] at h ⊢; exact h
          | 4 => rw [ergf4] at h ⊢; exact h
          | 5 => rw [ergf5] at h ⊢; (exact h)
          | 6 => rw [ergf6] at h ⊢; exact h
          | j + 7 => rw [hErgf]; trivial
        have crgf : ∀ x, Crgf (Array.replicate 7 false) x wx.drew := fun x => by rw [hCrgf]; exact ⟨HQX.out.2.2.2.trans ((Below.refl wx.heap.size wx).drew.mono HQX.out.2.2.2.size), fun _ => (Below.refl _ _).drew, fun e => absurd e (by decide), fun e => absurd e (by decide)⟩
        have brgf : ∀ L {x : Value} w w1, Crgf L x w → Below w.heap.size w w1 → Crgf L x w1 := by
          intro L x w w1 h hb
          rw [hCrgf] at h ⊢
          (obtain ⟨q1, q2, q3, q4⟩ := h; exact ⟨q1.trans (hb.mono q1.size), fun e => (q2 e).trans (hb.mono (q2 e).size), fun e => by obtain ⟨o9, k9, e1, h1⟩ := q3 e; exact ⟨o9, k9, e1, fun f => (h1 f).below hb⟩, fun e => by obtain ⟨o9, k9, h1⟩ := q4 e; exact ⟨o9, k9, h1.below hb⟩⟩)
        have xbrgf : ∀ w w1, Below w.heap.size w w1 → Xrgf w w1 := by
          intro w w1 hb
          rw [hXrgf]
          trivial
        have Hrgfb : Go.RowKit.Hid (∀ L {x : Value} w w1, Crgf L x w → Below w.heap.size w w1 → Crgf L x w1) := @brgf
        have Hrgfxb := Lib.hid xbrgf
        clear brgf xbrgf
        clear hErgf
        have Hrgfk : Go.RowKit.Hid (∀ i L {x : Value} w, i ≠ 5 → i ≠ 6 →  Crgf L x w → Crgf (L.setIfInBounds i true) x w) := @krgf
        have Hrgfx := Lib.hid xrgf
        have Hrgfst := Lib.hid strgf
        have Hrgfc := Lib.hid crgf
        have HrgfhC := Lib.hid hCrgf
        have HrgfhX := Lib.hid hXrgf
        have Hrgfe0 := Lib.hid ergf0
        have Hrgfe1 := Lib.hid ergf1
        have Hrgfe2 := Lib.hid ergf2
        have Hrgfe3 := Lib.hid ergf3
        have Hrgfe4 := Lib.hid ergf4
        have Hrgfe5 := Lib.hid ergf5
        have Hrgfe6 := Lib.hid ergf6
        clear krgf xrgf strgf crgf hCrgf hXrgf ergf0 ergf1 ergf2 ergf3 ergf4 ergf5 ergf6
        go_wp2_with fail
        refine RegC.regionF 5 Ergf Crgf Xrgf Hrgfst.out (by kernel_rfl) (by kernel_rfl) (by kernel_rfl) Hrgfc.out (fun Frgf hFrgf => ?_)
        simp only [Reg.frame, Reg.dsts, List.map_cons, List.map_nil, Mix.put_lit, Reg.put_none, List.set_cons_succ, List.set_cons_zero, Nat.zero_add, Nat.reduceAdd] at hFrgf
        refine ⟨?_, ?_⟩
        · refine ⟨?_, ?_, ?_, ?_, ?_, ?_, ?_, trivial⟩
          · intro Lq wq xq hh
            simp only [hFrgf]
            refine .inl ⟨rfl, ?_⟩
            unfold Reg.upon
            have hc : Crgf Lq (xq 5) wq := hh.cls
            rw [HrgfhC.out] at hc
            have hq := (HQX.out.below (hc.2.1 (Mix.one_un (hh.notYet 6 (by kernel_rfl))))).2.1
            rw [HLX.out] at hq
            have q0 := hq.cell 0 _ rfl
            have q1 := hq.cell 1 _ rfl
            have q2 := hq.cell 2 _ rfl
            have q3 := hq.cell 3 _ rfl
            have q4 := hq.cell 4 _ rfl
            clear hc
            have hk := Hrgfk.out 0 Lq wq (by decide) (by decide)  hh.cls
            have hx := Hrgfx.out wq
            have he : Ergf 0 (.agg #[.slice o n k, .int .i64 r, .int .i64 c, .bool pd, .bool au]) wq := by rw [Hrgfe0.out]
            have HK := Lib.hid (And.intro hk (And.intro he hx))
            clear hk hx he
            go_simp
            exact HK.out
          · intro Lq wq xq hh
            simp only [hFrgf]
            refine .inl ⟨rfl, ?_⟩
            unfold Reg.upon
            have hk := Hrgfk.out 1 Lq wq (by decide) (by decide)  hh.cls
            have hx := Hrgfx.out wq
            have he : Ergf 1 (.slice (some ⟨bl, ol, none⟩) m lc) wq := by rw [Hrgfe1.out]
            have HK := Lib.hid (And.intro hk (And.intro he hx))
            clear hk hx he
            go_simp
            exact HK.out
          · intro Lq wq xq hh
            simp only [hFrgf]
            refine .inl ⟨rfl, ?_⟩
            unfold Reg.upon
            have hk := Hrgfk.out 2 Lq wq (by decide) (by decide)  hh.cls
            have hx := Hrgfx.out wq
            have he : Ergf 2 (.int .i64 i) wq := by rw [Hrgfe2.out]
            have HK := Lib.hid (And.intro hk (And.intro he hx))
            clear hk hx he
            go_simp
            exact HK.out
          · intro Lq wq xq hh
            have d1 : Ergf 1 (xq 1) wq := hh.val 1 (by kernel_rfl) (by kernel_rfl)
            rw [Hrgfe1.out] at d1
            have d2 : Ergf 2 (xq 2) wq := hh.val 2 (by kernel_rfl) (by kernel_rfl)
            rw [Hrgfe2.out] at d2
            simp only [hFrgf, d1, d2]
            clear d1 d2
            refine .inl ⟨rfl, ?_⟩
            unfold Reg.upon
            have hk := Hrgfk.out 3 Lq wq (by decide) (by decide)  hh.cls
            have hx := Hrgfx.out wq
            have he : Ergf 3 (.pointer (some ⟨bl, ol + i * 4, none⟩)) wq := by rw [Hrgfe3.out]
            have HK := Lib.hid (And.intro hk (And.intro he hx))
            clear hk hx he
            go_simp
            exact HK.out
          · intro Lq wq xq hh
            have d3 : Ergf 3 (xq 3) wq := hh.val 3 (by kernel_rfl) (by kernel_rfl)
            rw [Hrgfe3.out] at d3
            simp only [hFrgf, d3]
            clear d3
            refine .inl ⟨rfl, ?_⟩
            unfold Reg.upon
            have hc : Crgf Lq (xq 5) wq := hh.cls
            rw [HrgfhC.out] at hc
            obtain ⟨y0, y1, y2, y3⟩ := HBW.out wq hc.1
            clear hc
            have hk := Hrgfk.out 4 Lq wq (by decide) (by decide)  hh.cls
            have hx := Hrgfx.out wq
            have he : Ergf 4 (.agg #[.int .i64 K, .int .i64 E, .int .i64 C, .slice bo bn bk]) wq := by rw [Hrgfe4.out]
            have HK := Lib.hid (And.intro hk (And.intro he hx))
            clear hk hx he
            go_simp
            exact HK.out
          · intro Lq wq xq hh
            have d0 : Ergf 0 (xq 0) wq := hh.val 0 (by kernel_rfl) (by kernel_rfl)
            rw [Hrgfe0.out] at d0
            have d4 : Ergf 4 (xq 4) wq := hh.val 4 (by kernel_rfl) (by kernel_rfl)
            rw [Hrgfe4.out] at d4
            simp only [hFrgf, d0, d4]
            clear d0 d4
            refine .inl ⟨rfl, ?_⟩
            unfold Reg.upon
            have hc : Crgf Lq (xq 5) wq := hh.cls
            rw [HrgfhC.out] at hc
            have hb := hc.2.1 (Mix.one_un (hh.notYet 6 (by kernel_rfl)))
            have hq := HQX.out.below hb
            have hhd := (HQX.out.2.2.1.zone (Y := fun x => (¬ PZ wx gp gr R x ∧ x ≠ b8) ∧ x < wx.heap.size) (fun x hx hz => ⟨hz, hx⟩)).below hb
            rw [HLX.out] at hhd
            have hrs := HRS.out (fun x => (¬ PZ wx gp gr R x ∧ x ≠ b8) ∧ x < wx.heap.size) wq hhd (fun x hx => Nat.lt_of_lt_of_le hx.2 hb.size)
            clear hhd
            go_simp
            refine hrs.mono ?_
            rintro e w2 ⟨v9, rfl, h9, b9⟩
            obtain ⟨o9, k9, ev9⟩ := h9.len
            rw [HLP.out] at ev9
            subst ev9
            have hF : Crgf (Lq.setIfInBounds 5 true) (.agg #[.slice o9 n k9, .int .i64 rr, .int .i64 cc, .bool false, .bool uu]) w2 := by
              rw [HrgfhC.out]
              refine ⟨hc.1.trans (b9.mono hc.1.size), fun _ => hb.trans (b9.mono hb.size), fun _ => ⟨o9, k9, rfl, fun _ => h9.zone (fun x _ hz => ?_)⟩, fun e => ?_⟩
              · rcases hz with hz | hz
                · exact .inl hz
                · exact .inr (Nat.le_trans hb.size hz.1)
              · rw [Mix.one_ne (by decide), Mix.one_un (hh.notYet 6 (by kernel_rfl))] at e
                exact absurd e (by decide)
            exact ⟨_, rfl, hF, (by rw [Hrgfe5.out]; trivial), (by rw [HrgfhX.out]; trivial)⟩
          · intro Lq wq xq hh
            have d5 : Ergf 5 (xq 5) wq := hh.val 5 (by kernel_rfl) (by kernel_rfl)
            rw [Hrgfe5.out] at d5
            simp only [hFrgf]
            refine .inl ⟨rfl, ?_⟩
            unfold Reg.upon
            have hc : Crgf Lq (xq 5) wq := hh.cls
            rw [HrgfhC.out] at hc
            have hb := hc.2.1 hh.un
            obtain ⟨o9, k9, e1, hz⟩ := hc.2.2.1 (hh.isDone 5 (by kernel_rfl))
            have hz := hz hh.un
            have hqb := (HQX.out.below hb).2.1
            have s0 := hqb.cell 0 _ rfl
            have s1 := hqb.cell 1 _ rfl
            have s2 := hqb.cell 2 _ rfl
            have s3 := hqb.cell 3 _ rfl
            have s4 := hqb.cell 4 _ rfl
            have f0 := hqb.free 0
            have f1 := hqb.free 1
            have f2 := hqb.free 2
            have f3 := hqb.free 3
            have f4 := hqb.free 4
            have q10 := QAt.put (r3 := rr) (c3 := cc) (pd3 := false) (au3 := uu) HWB8.out HQX.out hb (hz.zone (Y := fun x => ((¬ PZ wx gp gr R x ∧ x ≠ b8) ∧ x < wx.heap.size) ∨ (wx.heap.size ≤ x ∧ x < wq.heap.size)) (fun x hx hy => by rcases hy with hy | hy; exact .inl hy; exact .inr ⟨hy, hx⟩))
            have hF : Crgf (Lq.setIfInBounds 6 true) (xq 5) (((((wq.setCell ⟨b8, 0, none⟩ (.slice o9 n k9)).setCell ⟨b8, 1, none⟩ (.int .i64 rr)).setCell ⟨b8, 2, none⟩ (.int .i64 cc)).setCell ⟨b8, 3, none⟩ (.bool false)).setCell ⟨b8, 4, none⟩ (.bool uu)) := by
              rw [HrgfhC.out]
              refine ⟨q10.2.2.2, fun e => ?_, fun _ => ⟨o9, k9, e1, fun e => ?_⟩, fun _ => ⟨o9, k9, q10⟩⟩
              · rw [Mix.one_set (by rw [hh.size]; decide)] at e
                exact absurd e (by decide)
              · rw [Mix.one_set (by rw [hh.size]; decide)] at e
                exact absurd e (by decide)
            have hE : Ergf 6 undef (((((wq.setCell ⟨b8, 0, none⟩ (.slice o9 n k9)).setCell ⟨b8, 1, none⟩ (.int .i64 rr)).setCell ⟨b8, 2, none⟩ (.int .i64 cc)).setCell ⟨b8, 3, none⟩ (.bool false)).setCell ⟨b8, 4, none⟩ (.bool uu)) := by rw [Hrgfe6.out]
            have hX : Xrgf wq (((((wq.setCell ⟨b8, 0, none⟩ (.slice o9 n k9)).setCell ⟨b8, 1, none⟩ (.int .i64 rr)).setCell ⟨b8, 2, none⟩ (.int .i64 cc)).setCell ⟨b8, 3, none⟩ (.bool false)).setCell ⟨b8, 4, none⟩ (.bool uu)) := by rw [HrgfhX.out]; trivial
            rw [e1]
            clear hc hz hqb q10 hb
            go_simp
            exact ⟨hF, hE, hX⟩
        intro xq wrgf hcrgf hvrgf
        rw [HrgfhC.out] at hcrgf
        simp only [hFrgf]
        clear hvrgf hFrgf Hrgfk Hrgfx Hrgfst Hrgfc HrgfhC HrgfhX Hrgfb Hrgfxb Hrgfe0 Hrgfe1 Hrgfe2 Hrgfe3 Hrgfe4 Hrgfe5 Hrgfe6
        obtain ⟨o9, k9, hqf⟩ := hcrgf.2.2.2 (by kernel_rfl)
        have HS := Lib.hid hqf
        clear hqf hcrgf HQX HRS
        have HWX := Lib.hid (show Calls Tryz.prog 10 #[.agg #[.int .i64 K, .int .i64 E, .int .i64 C, .slice bo bn bk]] wrgf (Gives wrgf .nilIface) from ewrong_ok K E C bo bn bk wrgf HW0.out)
        obtain ⟨z0, z1, z2, z3⟩ := HBW.out _ HS.out.2.2.2
        go_wp2_with fail
        refine HWX.out.mono ?_
        rintro e wa ⟨rfl, ba⟩
        have HS2 := Lib.hid (HS.out.below ba)
        clear ba HWX z0 z1 z2 z3
        have HCD := Lib.hid (code_nil wa)
        obtain ⟨z0, z1, z2, z3⟩ := HBW.out _ HS2.out.2.2.2
        go_wp2_with fail
        refine HCD.out.mono ?_
        rintro e wz ⟨rfl, rfl⟩
        have HDO := Lib.hid (HPS.out wa HS2.out.1)
        go_wp2_with fail
        refine HDO.out.mono ?_
        rintro e wb ⟨rfl, kb⟩
        obtain ⟨R3, hq3⟩ := QAt.go HWB.out (Nat.le_trans HS2.out.1.2.1 (Nat.le_of_lt HS2.out.1.lt)) HS2.out kb
        have HS3 := Lib.hid hq3
        clear kb hq3 HDO HCD z0 z1 z2 z3
        have HCD := Lib.hid (code_nil wb)
        obtain ⟨z0, z1, z2, z3⟩ := HBW.out _ HS3.out.2.2.2
        go_wp2_with fail
        refine HCD.out.mono ?_
        rintro e wz ⟨rfl, rfl⟩
        have HDN := Lib.hid (edo_nil K E C bo bn bk wb HW0.out)
        go_wp2_with fail
        refine HDN.out.mono ?_
        rintro e wc ⟨rfl, bc⟩
        have HS4 := Lib.hid (HS3.out.below bc)
        clear bc HDN HCD z0 z1 z2 z3
        have HCD := Lib.hid (code_nil wc)
        obtain ⟨z0, z1, z2, z3⟩ := HBW.out _ HS4.out.2.2.2
        go_wp2_with fail
        refine HCD.out.mono ?_
        rintro e wz ⟨rfl, rfl⟩
        have HDS := Lib.hid (edoes_yes K HKN.out.1 HKN.out.2 wc)
        go_wp2_with fail
        refine HDS.out.mono ?_
        rintro e wz ⟨rfl, rfl⟩
        clear z0 z1 z2 z3 HCD HDS
        have hqb := HS4.out.2.1
        rw [HLP.out] at hqb
        have q0 := hqb.cell 0 _ rfl
        have q1 := hqb.cell 1 _ rfl
        have q2 := hqb.cell 2 _ rfl
        have q3 := hqb.cell 3 _ rfl
        have q4 := hqb.cell 4 _ rfl
        have hal := alike_any BP gp gg gr wd _ LP rr cc false uu _ _ wc HS4.out.1 HS4.out.2.2.1
        rw [HLP.out] at hal
        have HAL := Lib.hid hal
        clear hal hqb
        go_wp2_with fail
        refine HAL.out.mono ?_
        rintro e wz ⟨rfl, bz⟩
        have HZZ := Lib.hid (HS4.out.below bz)
        clear bz q0 q1 q2 q3 q4
        go_wp2
        go_roundw
        case rel => exact ⟨i + 1, _, _, _, _, _, _, _, _, by omega, by go_num, HZZ.out, HLP.out⟩
        case measure => simp [intOf] <;> omega
    · obtain rfl : i = m := by omega
      have j1 : decide ((i : Int) < (i : Int)) = false := by rw [decide_eq_false_iff_not]; omega
      have HF := Lib.hid HQ.out.2.2.2
      clear hq hlx
      go_wp2
      go_ret
      exact ⟨(ret_eq (by first | rfl | (simp <;> omega))), HF.out⟩
set_option maxRecDepth 100000 in
theorem walk {H : Type} {enc : TypeId × Value → H} (W : World) (u : Value) {base : Nat} {d : DataW H} {p : List MemPlace} (hv : Value.okWide Tryz.prog W .any base 26 u) (h : DataW.Trod enc Tryz.prog W 0 (fun _ => true) true 26 u d p) (v : Value) {base' : Nat} {d' : DataW H} {p' : List MemPlace} (hv' : Value.okWide Tryz.prog W .any base' 27 v) (h' : DataW.Trod enc Tryz.prog W 0 (fun _ => true) true 27 v d' p') (hL : laidMetH Tryz.prog Rows.editPlaysRow.laid W) : Calls Tryz.prog 3 #[u, v] W (Yes W) := by
  have hE := opens_triple (P := Tryz.prog) Tryz.underlying26 (by kernel_rfl) rfl rfl rfl (opens_slice Tryz.underlying22 (by kernel_rfl) (by decide) (opens_pair Tryz.underlying53 (by kernel_rfl) rfl rfl (opens_slice Tryz.underlying51 (by kernel_rfl) (by decide) (opens_pair Tryz.underlying82 (by kernel_rfl) rfl rfl (opens_int (k := .i64) Tryz.underlying3 (by kernel_rfl)) (opens_slice Tryz.underlying80 (by kernel_rfl) (by decide) (opens_int (k := .i32) Tryz.underlying21 (by kernel_rfl))))) (opens_bool Tryz.underlying4 (by kernel_rfl)))) (opens_triple Tryz.underlying24 (by kernel_rfl) rfl rfl rfl (opens_int (k := .i64) Tryz.underlying3 (by kernel_rfl)) (opens_int (k := .i64) Tryz.underlying3 (by kernel_rfl)) (opens_bool Tryz.underlying4 (by kernel_rfl))) (opens_bool Tryz.underlying4 (by kernel_rfl))
  obtain ⟨cs, ⟨Ls, ⟨P, Q, S⟩, au⟩, rfl, ⟨C1, C2, hcs, ⟨tv, rfl, ht⟩, C3, C4, rfl, ⟨C5, C6, rfl, rfl, C7, C8, rfl, rfl, rfl⟩, rfl⟩, _⟩ := opens_struct Tryz.underlying26 hE hv h
  obtain rfl : cs = #[tv, .int .i64 P, .int .i64 Q, .bool S, .bool au] := by
    apply Array.toList_inj.1
    rw [hcs]
    rfl
  obtain ⟨A, hA, _⟩ := opens_arg (E := opE) Tryz.underlying27 (by kernel_rfl) (by decide) (opens_four (P := Tryz.prog) Tryz.underlying43 (by kernel_rfl) rfl rfl rfl rfl (opens_int (k := .i64) Tryz.underlying3 (by kernel_rfl)) (opens_int (k := .i64) Tryz.underlying3 (by kernel_rfl)) (opens_int (k := .i64) Tryz.underlying3 (by kernel_rfl)) (opens_slice Tryz.underlying41 (by kernel_rfl) (by decide) (opens_int (k := .u8) Tryz.underlying5 (by kernel_rfl)))) hv' h'
  obtain ⟨sa, hsa⟩ := sents_of_row hL
  exact walkH W tv v Ls P Q S au A _ _ ht hA sa hsa

theorem door_met (os : Os) : laidMetH Tryz.prog Rows.editPlaysRow.laid ((World.doorLaid Tryz.prog 400 os).forCall (fun _ _ => 0) ⟨#[], #[.agg #[.slice none 0 0, .int .i64 0, .int .i64 0, .bool false, .bool false], .slice none 0 0], []⟩).memory :=
  laidMetH_of_parts3 (fuel := 8) (laidMet_of_run' 8 (by kernel_rfl) (by kernel_rfl)) (by kernel_rfl) (by kernel_rfl)

set_option maxRecDepth 100000 in
theorem lifted (os : Os) (started : os.Started) (H : Type) (enc : TypeId × Value → H) :
    ReturnsInHanded {} Tryz.checked os 3 .any (fun w args => (Rows.editPlaysSpec.pre enc Tryz.prog Tryz.f3 [] false w args ∧ laidMetH Tryz.prog Rows.editPlaysRow.laid w) ∧ sizedMet enc Tryz.prog Tryz.f3 (OpenSpec.ofChange Rows.editPlaysSpec) false w args)
      (Rows.editPlaysSpec.post enc Tryz.prog Tryz.f3 false true false false) := by
  refine law_frame (C := Tryz.checked) (tb := 4) (by kernel_rfl) started (by kernel_rfl) Tryz.func3 (by kernel_rfl) (by kernel_rfl) Tryz.underlying4 rfl
    (by rw [Tryz.params3]; intro t ht; simp at ht; rcases ht with rfl | rfl <;> exact ⟨by kernel_rfl, of_decide_eq_true (by kernel_rfl)⟩)
    (by rw [Tryz.params3]; intro ds hd; match ds, hd with | [_, _], _ => rfl)
    (ChangeSpec.witness_shaped (enc := enc) (C := Tryz.checked) (os := os) (X := fun w _ => laidMetH Tryz.prog Rows.editPlaysRow.laid w) false (World.doorLaid Tryz.prog 400 os) #[.agg #[.slice none 0 0, .int .i64 0, .int .i64 0, .bool false, .bool false], .slice none 0 0] 8 rfl (World.shaped_of_RefB (by kernel_rfl) (by kernel_rfl)) (by kernel_rfl) (by kernel_rfl) (by kernel_rfl) (door_met os)) ?_
  intro W base args ds before hval hA hsz hL
  rw [Tryz.params3] at hA hval
  obtain ⟨v0, vs0, d0, ds0, p0, q0, hargs, rfl, rfl, h0, r0⟩ := trodAll_cons hA
  obtain ⟨v1, vs1, d1, ds1, p1, q1, rfl, rfl, rfl, h1, r1⟩ := trodAll_cons r0
  obtain ⟨rfl, rfl, rfl⟩ := trodAll_nil r1
  obtain rfl : args = #[v0, v1] := by cases args; simp_all

  exact walk W v0 (hval 0 26 v0 rfl rfl) h0 v1 (hval 1 27 v1 rfl rfl) h1 hL

theorem said : Rows.EditPlaysSaid :=
  OpenClaim.holds_of_wide 3 Tryz.f3 rfl rfl rfl rfl rfl rfl rfl ⟨rfl, rfl, rfl, rfl, rfl⟩ rfl rfl rfl rfl rfl (by kernel_rfl) Tryz.func3 (by kernel_rfl)
    (of_decide_eq_true (by kernel_rfl)) (by unfold Func.isWrapper; first | (rw [if_pos (by decide +kernel)]; kernel_rfl) | (rw [if_neg (by decide +kernel)]; exact ⟨rfl, rfl⟩))
    (fun os started H enc _ => lifted os started H enc)

theorem plain (f : FuncId) (fn : Func) (hf : Tryz.pinned.checked.prog.funcNamed "linotype/linotypelaw38.EditPlays" = some f) (hfn : Tryz.pinned.checked.prog.funcs[f]? = some fn) :
    true = Tryz.pinned.checked.prog.looks [] ∧ ∀ (j : Nat) t, fn.params[j]? = some t → Tryz.pinned.checked.prog.wantsStandIn t = false := by
  obtain rfl : f = 3 := Option.some.inj ((show Tryz.prog.funcNamed "linotype/linotypelaw38.EditPlays" = some 3 by kernel_rfl).symm.trans hf) |>.symm
  obtain rfl : fn = Tryz.f3 := (Option.some.inj (Tryz.func3.symm.trans hfn)).symm
  refine ⟨by kernel_rfl, fun j t ht => ?_⟩
  rw [Tryz.params3] at ht
  have hm : t ∈ [26, 27] := by simpa using Array.mem_of_getElem? ht
  have hall : ([26, 27].all fun u => !Tryz.prog.wantsStandIn u) = true := by kernel_rfl
  exact (show Tryz.prog.wantsStandIn t = false by simpa using List.all_eq_true.1 hall t hm)

/-- THE CARD. -/
theorem card : Rows.EditPlaysCardSaid :=
  Claim7.holds_tied_plain_at .later [] _ _ _ _ said (fun _ h => by cases h) (by kernel_rfl) (fun _ h => by cases h) editPlays_row_tie rfl ⟨rfl, rfl⟩ (by kernel_rfl) rfl plain (by kernel_rfl)
#print axioms card

end Go.Proofs.YtgndolgihplngaaGreatDoor.lawEditPlays
