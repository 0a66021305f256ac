/- CtrlDoes (36.1) answers true at all lines, cursors, marks and every list of numbers, and turns nothing. No condition. -/
import Derived.Test.YtgndolgihplngaaDoorCtlR
import Derived.Test.YtgndolgihplngaaDoorMg10
import Derived.Test.YtgndolgihplngaaDoorMg7
import Derived.Test.YtgndolgihplngaaDoorMg1
import Derived.Test.YtgndolgihplngaaDoorCellS
import Derived.Test.YtgndolgihplngaaDoorCards
import Derived.Test.YtgndolgihplngaaDoorTie
import Derived.ProofKit
import Derived.Lib.MinMax
namespace Go.Proofs.YtgndolgihplngaaDoor.lawCtrlDoes
open Go.ChangeShapes Go.WideShapes Go.ChangeAt Go.RowKit
theorem runes_at {Z : Zone} {w : World} {ao : Option Addr} {n cap : Nat} {L : List Int} (h : HeldE (intE .i32) Z w (.slice ao n cap) L) : n = L.length ∧ n ≤ cap ∧ ∀ i, i < L.length → ∃ b off, ao = some ⟨b, off, none⟩ ∧ b < w.heap.size ∧ w.cell? ⟨b, off + i, none⟩ = some (.int .i32 (L.getD i 0)) := by
  obtain ⟨h1, h2, h3⟩ := h.spots
  refine ⟨h1, h2, fun i hi => ?_⟩
  obtain ⟨b, off, rfl, hb, hz, C, hC, hr⟩ := h3 i hi
  have hr' : C = [.int .i32 (L.getD i 0)] := hr
  subst hr'
  have h0 := hC 0 (by decide)
  refine ⟨b, off, rfl, hb, ?_⟩
  simpa [intE] using h0
set_option maxRecDepth 100000 in
set_option maxHeartbeats 20000000 in
theorem walkH (W : World) (va vb : Value) (Ls : List Ln) (P Q : Int) (S au : Bool) (A : List Int) (Z Y : Zone) (ha : HeldE lineE Z W va Ls) (hvb : HeldE (intE .i32) Y W vb A) : Calls Tryd.prog 5 #[.agg #[va, .int .i64 P, .int .i64 Q, .bool S, .bool au], vb] W (Yes W) := by
  have hla := ha.max
  have hlb := hvb.max
  have ha := ha.lower
  obtain ⟨ao, ca, rfl⟩ := ha.len
  obtain ⟨lo, lc, rfl⟩ := hvb.len
  obtain ⟨n, hn⟩ : ∃ n, n = Ls.length := ⟨_, rfl⟩
  obtain ⟨m, hm⟩ : ∃ m, m = A.length := ⟨_, rfl⟩
  have HN := Lib.hid hn
  have HMM := Lib.hid hm
  rw [← hn] at ha hla ⊢
  rw [← hm] at hvb hlb ⊢
  have HA := Lib.hid ha
  have HLA := Lib.hid hvb
  have HWR := Lib.hid (show ∀ w', Below W.heap.size W w' → Calls Tryd.prog 8 #[.slice ao n ca] w' (WrongTold w' Ls) from fun w' h => rlwrong_any _ _ Ls w' (HA.out.below h))
  have hb0 := (Below.refl W.heap.size W).alloc (Nat.le_refl _) (.cells [Value.slice ao n ca, .int .i64 P, .int .i64 Q, .bool S, .bool au].toArray 26)
  have hn0 := Has.new W [Value.slice ao n ca, .int .i64 P, .int .i64 Q, .bool S, .bool au] 26
  obtain ⟨W0, hW0⟩ : ∃ W0, W0 = W.alloc (.cells [Value.slice ao n ca, .int .i64 P, .int .i64 Q, .bool S, .bool au].toArray 26) := ⟨_, rfl⟩
  rw [← hW0] at hb0 hn0
  have hW0' : W0 = W.alloc (.cells #[Value.slice ao n ca, .int .i64 P, .int .i64 Q, .bool S, .bool au] 26) := hW0
  obtain ⟨gx, hgx⟩ : ∃ gx, gx = W.heap.size := ⟨_, rfl⟩
  have HGX := Lib.hid hgx
  rw [← hgx] at hn0
  have HB0 := Lib.hid hb0
  have HX0 := Lib.hid hn0
  clear ha hvb hn hm hb0 hn0 hW0 hgx
  go_enter Tryd.func5, Tryd.ntmps5
  go_upto_region 1 with (fail)
  rw [← hW0', ← HGX.out]
  clear hW0'
  have x0 := HX0.out.cell 0 _ rfl
  go_wp2_with fail
  refine (HWR.out W0 HB0.out).mono ?_
  rintro e w0 hq
  obtain ⟨at_, acc, rfl, hat, b0⟩ := hq.say
  clear hq
  have HA0 := Lib.hid hat
  have B2 := Lib.hid (HB0.out.trans (b0.mono HB0.out.size))
  have HX1 := Lib.hid (HX0.out.below b0 HX0.out.lt)
  clear b0 hat x0 HX0
  go_wp2_with fail
  refine (works36_any _).mono ?_
  rintro e w2 ⟨rfl, b2⟩
  have B3 := Lib.hid (B2.out.trans (b2.mono B2.out.size))
  have HX2 := Lib.hid (HX1.out.below b2 HX1.out.lt)
  have d1 := HX2.out.cell 0 _ rfl
  clear b2 HX1 B2
  by_cases h1 : 20 < n
  · have hd : decide ((20 : Int) < n) = true := by rw [decide_eq_true_eq]; omega
    have hdn : decide (20 < n) = true := by rw [decide_eq_true_eq]; omega
    go_wp2_with fail
    refine (works36_any _).mono ?_
    rintro e w3 ⟨rfl, b3⟩
    have BB := B3.out.trans (b3.mono B3.out.size)
    go_wp2
    go_ret
    exact ⟨(ret_eq (by first | rfl | (simp <;> omega))), BB⟩

  have hd20 : decide ((20 : Int) < n) = false := by rw [decide_eq_false_iff_not]; omega
  have hd20n : decide (20 < n) = false := by rw [decide_eq_false_iff_not]; omega
  by_cases h0 : n = 0
  · have hz : ((n : Int) == 0) = true := by rw [beq_iff_eq]; omega
    clear h0 h1
    go_wp2_with fail
    refine (works36_any _).mono ?_
    rintro e w3 ⟨rfl, b3⟩
    have BB := B3.out.trans (b3.mono B3.out.size)
    go_wp2
    go_ret
    exact ⟨(ret_eq (by first | rfl | (simp <;> omega))), BB⟩

  have hz : ((n : Int) == 0) = false := by rw [beq_eq_false_iff_ne]; omega
  by_cases hall : AllGood Ls
  rotate_left
  · have hge : decide ((0 : Int) ≤ at_) = true := by rw [decide_eq_true_eq]; rcases HA0.out with h | h; exact absurd h.1 hall; exact h.1
    go_wp2_with fail
    refine (works36_any _).mono ?_
    rintro e w3 ⟨rfl, b3⟩
    have BB := B3.out.trans (b3.mono B3.out.size)
    go_wp2
    go_ret
    exact ⟨(ret_eq (by first | rfl | (simp <;> omega))), BB⟩

  obtain rfl : at_ = -1 := by rcases HA0.out with h | h; exact h.2; exact absurd hall h.2
  by_cases h6 : 60 < m
  · have hd : decide ((60 : Int) < m) = true := by rw [decide_eq_true_eq]; omega
    have hdn : decide (60 < m) = true := by rw [decide_eq_true_eq]; omega
    go_wp2_with fail
    refine (works36_any _).mono ?_
    rintro e w3 ⟨rfl, b3⟩
    have BB := B3.out.trans (b3.mono B3.out.size)
    go_wp2
    go_ret
    exact ⟨(ret_eq (by first | rfl | (simp <;> omega))), BB⟩

  have hd60 : decide ((60 : Int) < m) = false := by rw [decide_eq_false_iff_not]; omega
  have hd60n : decide (60 < m) = false := by rw [decide_eq_false_iff_not]; omega
  have HM60 := Lib.hid (show m ≤ 60 from by omega)
  have HN20 := Lib.hid (show 0 < n ∧ n ≤ 20 from by omega)
  have HALL := Lib.hid hall
  have hg := gof_good _ _ Ls w2 HALL.out (HA.out.below B3.out) (by rw [← HN.out]; omega) (by rw [← HN.out]; omega)
  have HG := Lib.hid hg
  clear hall hg HA0 HWR h1 h0 h6
  go_wp2_with fail
  refine HG.out.mono ?_
  rintro e w3 ⟨gg, gr, Rs, rfl, hg3, hm3, b3⟩
  have hb4 := (Below.refl w3.heap.size w3).alloc (Nat.le_refl _) (.cells [Value.pointer (some ⟨gg, 0, none⟩), .int .i64 P, .int .i64 Q, .bool S, .bool au].toArray 38)
  have hn4 := Has.new w3 [Value.pointer (some ⟨gg, 0, none⟩), .int .i64 P, .int .i64 Q, .bool S, .bool au] 38
  obtain ⟨W4, hW4⟩ : ∃ W4, W4 = w3.alloc (.cells [Value.pointer (some ⟨gg, 0, none⟩), .int .i64 P, .int .i64 Q, .bool S, .bool au].toArray 38) := ⟨_, rfl⟩
  rw [← hW4] at hb4 hn4
  obtain ⟨gp, hgp⟩ : ∃ gp, gp = w3.heap.size := ⟨_, rfl⟩
  rw [← hgp] at hn4
  obtain ⟨wd, hwd⟩ : ∃ wd, wd = firstN Ls := ⟨_, rfl⟩
  rw [← hwd] at hg3
  obtain ⟨BP, hBP⟩ : ∃ BP, BP = w2.heap.size := ⟨_, rfl⟩
  have hpa : PenAt W4 BP gp gg gr wd Rs Ls P Q S au := ⟨hn4, by rw [hBP, hgp]; exact b3.size, by rw [hBP]; exact hg3.below hb4, hm3⟩
  have HW4 := Lib.hid (show W4 = w3.alloc (.cells #[Value.pointer (some ⟨gg, 0, none⟩), .int .i64 P, .int .i64 Q, .bool S, .bool au] 38) from hW4)
  have HGP := Lib.hid hgp
  have HP4 := Lib.hid hpa
  have HBP := Lib.hid (show W.heap.size ≤ BP from by rw [hBP]; exact B3.out.size)
  have HX4 := Lib.hid ((HX2.out.below b3 HX2.out.lt).below hb4 (Nat.lt_of_lt_of_le HX2.out.lt b3.size))
  have B4 := Lib.hid ((B3.out.trans (b3.mono B3.out.size)).trans (hb4.mono (Nat.le_trans B3.out.size b3.size)))
  have h73 := HX2.out.below b3 HX2.out.lt
  have z1 := h73.cell 1 _ rfl
  have z2 := h73.cell 2 _ rfl
  have z3 := h73.cell 3 _ rfl
  have z4 := h73.cell 4 _ rfl
  have hb6 := (Below.refl W4.heap.size W4).alloc (Nat.le_refl _) (.cells [Value.slice ao n ca, .int .i64 P, .int .i64 Q, .bool S, .bool au].toArray 39)
  have hn6 := Has.new W4 [Value.slice ao n ca, .int .i64 P, .int .i64 Q, .bool S, .bool au] 39
  obtain ⟨W6, hW6⟩ : ∃ W6, W6 = W4.alloc (.cells [Value.slice ao n ca, .int .i64 P, .int .i64 Q, .bool S, .bool au].toArray 39) := ⟨_, rfl⟩
  rw [← hW6] at hb6 hn6
  obtain ⟨b8, hb8⟩ : ∃ b8, b8 = W4.heap.size := ⟨_, rfl⟩
  rw [← hb8] at hn6
  have HW6 := Lib.hid (show W6 = W4.alloc (.cells #[Value.slice ao n ca, .int .i64 P, .int .i64 Q, .bool S, .bool au] 39) from hW6)
  have HB8 := Lib.hid hb8
  have HWB8 := Lib.hid (show W.heap.size ≤ b8 from by rw [hb8]; exact B4.out.size)
  have HWB := HBP
  have HQ0 := Lib.hid (show QAt W BP gp gg gr wd b8 Rs Ls P Q S au Ls P Q S au ao ca W6 from by
    have hp6 := hpa.below hb6
    have hB6 : BP ≤ W6.heap.size := Nat.le_trans hpa.2.1 (Nat.le_trans (Nat.le_of_lt hpa.lt) hb6.size)
    refine ⟨hp6, by rw [← HN.out]; exact hn6, ?_, B4.out.trans (hb6.mono B4.out.size)⟩
    rw [← HN.out]
    exact (((HA.out.zone (Y := fun x => x < W.heap.size) (fun x hx _ => hx)).below B4.out).below hb6).zone (fun x _ hz => ⟨fun e => by have := pz_ge hp6 hB6 x e; have := HBP.out; omega, by have := HWB8.out; omega⟩))
  clear hb6 hn6 hW6 hb8 hpa hW4 hgp hwd hBP hb4 hn4 hg3 hm3 b3 h73 HG
  go_upto_region 8 with (fail)
  rw [← HW4.out, ← HGP.out]
  clear z1 z2 z3 z4 d1
  have y0 := HX4.out.cell 0 _ rfl
  have y1 := HX4.out.cell 1 _ rfl
  have y2 := HX4.out.cell 2 _ rfl
  have y3 := HX4.out.cell 3 _ rfl
  have y4 := HX4.out.cell 4 _ rfl
  go_upto_region 9 with (fail)
  rw [← HW6.out, ← HB8.out]
  clear y0 y1 y2 y3 y4
  go_wp2
  go_loopw [11] (fun iv wr => ∃ (i : Nat) (R : List Rw) (Lx : List Ln) (r c : Int) (pd au : Bool) (o : Option Addr) (k : Nat), i ≤ m ∧ iv = .int .i64 i ∧ QAt W BP gp gg gr wd b8 R Lx r c pd au Lx r c pd au o k wr ∧ Lx.length = n) (fun iv _ => m - (intOf iv).toNat)
  case atStart => exact ⟨0, Rs, Ls, P, Q, S, au, ao, ca, Nat.zero_le _, rfl, HQ0.out, HN.out.symm⟩
  case round =>
    clear HQ0 HX4 HP4
    obtain ⟨i, R, Lx, r, c, pd, au, o, k, hi, rfl, hq, hlx⟩ := hrel
    obtain ⟨wv, hwq⟩ : ∃ wv, wv = wr := ⟨_, rfl⟩
    subst hwq
    have HQ := Lib.hid hq
    have HLX := Lib.hid hlx
    by_cases hlt : i < m
    · have j1 : decide ((i : Int) < (m : Int)) = true := by rw [decide_eq_true_eq]; omega
      have j2 : decide (i < m) = true := by rw [decide_eq_true_eq]; omega
      have hii : (i : Int) < (m : Int) := by omega
      have hik : i < lc := by have := (runes_at HLA.out).2.1; omega
      have hwj : IntKind.i64.wrap ((i : Int) + 1) = (i : Int) + 1 := by rw [IntKind.wrap_i64]; have := HM60.out; omega
      obtain ⟨bl, ol, rfl, hbl, c0⟩ := (runes_at HLA.out).2.2 i (by rw [← HMM.out]; exact hlt)
      obtain ⟨K, hab⟩ : ∃ y, y = A.getD i 0 := ⟨_, rfl⟩
      rw [← hab] at c0
      have HL0 := Lib.hid c0
      have HBL := Lib.hid hbl
      have hs := hq.1.sizes
      have HEV := Lib.hid (show Even Lx wd from ⟨hs.1, by rw [hlx]; have := HN20.out; omega, hs.2.2.1, hs.2.2.2.1, hs.2.2.2.2.2⟩)
      obtain ⟨r2, hr2, hlr⟩ := in_nat r hs.1 hs.2.1
      obtain ⟨c2, hc2, hlc⟩ := in_nat c hs.2.2.1 hs.2.2.2.1
      have HBW := Lib.hid (show ∀ w', Below W.heap.size W w' → w'.cell? ⟨bl, ol + i, none⟩ = some (.int .i32 K) from fun w' hb => (hb.cell (p := ⟨bl, ol + i, none⟩) HBL.out).trans HL0.out)
      obtain ⟨LP, hLP⟩ : ∃ LP, LP = ctL Lx r2 K := ⟨_, rfl⟩
      obtain ⟨rr, hrr⟩ : ∃ rr, rr = ctR Lx r r2 K := ⟨_, rfl⟩
      obtain ⟨cc, hcc⟩ : ∃ cc, cc = ctC c c2 K := ⟨_, rfl⟩
      obtain ⟨pp, hpp⟩ : ∃ pp, pp = ctP pd K := ⟨_, rfl⟩
      obtain ⟨sk, hsk⟩ : ∃ sk, sk = silB K := ⟨_, rfl⟩
      have HLP := Lib.hid (show LP.length = n from by rw [hLP, ct_len, hlx])
      have HPS := Lib.hid (show ∀ w', PenAt w' BP gp gg gr wd R Lx r c pd au → Calls Tryd.prog 24 #[.pointer (some ⟨gp, 0, none⟩), .int .i32 K] w' (fun e w2 => e = .returned (.bool sk) ∧ PDo w' BP gp gg gr wd R LP rr cc pp au w2) from fun w' h => by
        rw [hLP, hrr, hcc, hpp, hsk]
        exact ctdo_any BP gp gg gr wd R Lx r c pd au K w' h r2 c2 hr2 hc2 hlr hlc)
      have HPN := Lib.hid (show ∀ w', Calls Tryd.prog 24 #[.pointer none, .int .i32 K] w' (Gives w' (.bool sk)) from fun w' => by rw [hsk]; exact ctdo_nil K w')
      have HPE := Lib.hid (show ∀ (g : Nat) (C : List Value) w', Has w' g (.pointer none :: C) 38 → Calls Tryd.prog 24 #[.pointer (some ⟨g, 0, none⟩), .int .i32 K] w' (Gives w' (.bool sk)) from fun g C w' h => by rw [hsk]; exact ctdo_empty g K w' C h)
      have HRS := Lib.hid (show ∀ (Zq : Zone) w', HeldE lineE Zq w' (.slice o n k) Lx → (∀ b, Zq b → b < w'.heap.size) → Calls Tryd.prog 23 #[.agg #[.slice o n k, .int .i64 r, .int .i64 c, .bool pd, .bool au], .int .i32 K] w' (fun e w2 => ∃ v', e = .returned (.tuple #[.agg #[v', .int .i64 rr, .int .i64 cc, .bool pp, .bool au], .bool sk]) ∧ HeldE lineE (fun b => Zq b ∨ (w'.heap.size ≤ b ∧ b < w2.heap.size)) w2 v' LP ∧ Below w'.heap.size w' w2) from fun Zq w' h1 h2 => by
        rw [hLP, hrr, hcc, hpp, hsk]
        exact rct_any Zq (.slice o n k) Lx r c pd au K w' h1 h2 wd HEV.out r2 c2 hr2 hc2 hlr hlc)
      have HQX := Lib.hid (show QAt W BP gp gg gr wd b8 R Lx r c pd au Lx r c pd au o k wv from hq)
      have HB8 := Lib.hid (show b8 < wv.heap.size from hq.2.1.lt)
      clear hq hr2 hc2 hlr hlc hs c0 hab hbl hlx hLP hrr hcc hpp hsk
      go_upto_region 13 with (fail)
      obtain ⟨Ergf, hErgf⟩ : ∃ EE : Nat → Value → World → Prop, EE = fun jj xx ww => match jj with
          | 0 => xx = .agg #[.slice o n k, .int .i64 r, .int .i64 c, .bool pd, .bool au]
          | 1 => xx = .slice (some ⟨bl, ol, none⟩) m lc
          | 2 => xx = .int .i64 i
          | 3 => xx = .pointer (some ⟨bl, ol + i, none⟩)
          | 4 => xx = .int .i32 K
          | 5 => (fun x w' => ∃ o9 k9, x = .tuple #[.agg #[.slice o9 n k9, .int .i64 rr, .int .i64 cc, .bool pp, .bool au], .bool sk] ∧ HeldE lineE (fun b => ((¬ PZ wv gp gr R b ∧ b ≠ b8) ∧ b < wv.heap.size) ∨ wv.heap.size ≤ b) w' (.slice o9 n k9) LP) xx ww
          | 6 => (fun x w' => ∃ o9 k9, x = .tuple #[.agg #[.slice o9 n k9, .int .i64 rr, .int .i64 cc, .bool pp, .bool au], .bool sk] ∧ HeldE lineE (fun b => ((¬ PZ wv gp gr R b ∧ b ≠ b8) ∧ b < wv.heap.size) ∨ wv.heap.size ≤ b) w' (.slice o9 n k9) LP) xx ww
          | 7 => (fun x w' => ∃ o9 k9, x = .agg #[.slice o9 n k9, .int .i64 rr, .int .i64 cc, .bool pp, .bool au] ∧ HeldE lineE (fun b => ((¬ PZ wv gp gr R b ∧ b ≠ b8) ∧ b < wv.heap.size) ∨ wv.heap.size ≤ b) w' (.slice o9 n k9) LP) xx ww
          | 8 => xx = .bool sk
          | 9 => xx = undef
          | 10 => xx = .bool sk
          | _ => True := ⟨_, rfl⟩
      have ergf0 : ∀ xx ww, Ergf 0 xx ww = (xx = .agg #[.slice o n k, .int .i64 r, .int .i64 c, .bool pd, .bool au]) := fun xx ww => congrFun (congrFun (congrFun hErgf 0) xx) ww
      have ergf1 : ∀ xx ww, Ergf 1 xx ww = (xx = .slice (some ⟨bl, ol, none⟩) m lc) := fun xx ww => congrFun (congrFun (congrFun hErgf 1) xx) ww
      have ergf2 : ∀ xx ww, Ergf 2 xx ww = (xx = .int .i64 i) := fun xx ww => congrFun (congrFun (congrFun hErgf 2) xx) ww
      have ergf3 : ∀ xx ww, Ergf 3 xx ww = (xx = .pointer (some ⟨bl, ol + i, none⟩)) := fun xx ww => congrFun (congrFun (congrFun hErgf 3) xx) ww
      have ergf4 : ∀ xx ww, Ergf 4 xx ww = (xx = .int .i32 K) := fun xx ww => congrFun (congrFun (congrFun hErgf 4) xx) ww
      have ergf5 : ∀ xx ww, Ergf 5 xx ww = ((fun x w' => ∃ o9 k9, x = .tuple #[.agg #[.slice o9 n k9, .int .i64 rr, .int .i64 cc, .bool pp, .bool au], .bool sk] ∧ HeldE lineE (fun b => ((¬ PZ wv gp gr R b ∧ b ≠ b8) ∧ b < wv.heap.size) ∨ wv.heap.size ≤ b) w' (.slice o9 n k9) LP) xx ww) := fun xx ww => congrFun (congrFun (congrFun hErgf 5) xx) ww
      have ergf6 : ∀ xx ww, Ergf 6 xx ww = ((fun x w' => ∃ o9 k9, x = .tuple #[.agg #[.slice o9 n k9, .int .i64 rr, .int .i64 cc, .bool pp, .bool au], .bool sk] ∧ HeldE lineE (fun b => ((¬ PZ wv gp gr R b ∧ b ≠ b8) ∧ b < wv.heap.size) ∨ wv.heap.size ≤ b) w' (.slice o9 n k9) LP) xx ww) := fun xx ww => congrFun (congrFun (congrFun hErgf 6) xx) ww
      have ergf7 : ∀ xx ww, Ergf 7 xx ww = ((fun x w' => ∃ o9 k9, x = .agg #[.slice o9 n k9, .int .i64 rr, .int .i64 cc, .bool pp, .bool au] ∧ HeldE lineE (fun b => ((¬ PZ wv gp gr R b ∧ b ≠ b8) ∧ b < wv.heap.size) ∨ wv.heap.size ≤ b) w' (.slice o9 n k9) LP) xx ww) := fun xx ww => congrFun (congrFun (congrFun hErgf 7) xx) ww
      have ergf8 : ∀ xx ww, Ergf 8 xx ww = (xx = .bool sk) := fun xx ww => congrFun (congrFun (congrFun hErgf 8) xx) ww
      have ergf9 : ∀ xx ww, Ergf 9 xx ww = (xx = undef) := fun xx ww => congrFun (congrFun (congrFun hErgf 9) xx) ww
      have ergf10 : ∀ xx ww, Ergf 10 xx ww = (xx = .bool sk) := fun xx ww => congrFun (congrFun (congrFun hErgf 10) xx) ww
      obtain ⟨Crgf, hCrgf⟩ : ∃ CC : Array Bool → World → Prop, CC = fun L8 w' => Below W.heap.size W w' ∧ (Mix.one L8 9 = 0 → Below wv.heap.size wv w') ∧ (Mix.one L8 9 = 1 → ∃ o9 k9, QAt W BP gp gg gr wd b8 R Lx r c pd au LP rr cc pp au o9 k9 w') := ⟨_, rfl⟩
      have krgf : ∀ i L w, i ≠ 9 →  Crgf L w → Crgf (L.setIfInBounds i true) w := by
        intro i L w q9 h
        rw [hCrgf] at h ⊢
        simp only [Mix.one_ne q9]; exact h
      obtain ⟨Xrgf, hXrgf⟩ : ∃ XX : World → World → Prop, XX = fun x y => Upd (fun b => b = b8) x y := ⟨_, rfl⟩
      have xrgf : ∀ w, Xrgf w w := fun w => by rw [hXrgf]; exact Upd.refl _ _
      have strgf : ∀ j x w w1, Xrgf w w1 → Ergf j x w → Ergf j x w1 := by
        intro j x w w1 hx h
        rw [hXrgf] at hx
        match j with
        | 0 => rw [ergf0] at h ⊢; exact h
        | 1 => rw [ergf1] at h ⊢; exact h
        | 2 => rw [ergf2] at h ⊢; exact h
        | 3 => rw [ergf3] at h ⊢; exact h
        | 4 => rw [ergf4] at h ⊢; exact h
        | 5 => rw [ergf5] at h ⊢; ((obtain ⟨o9, k9, e9, h9⟩ := h; exact ⟨o9, k9, e9, h9.upd hx (fun b hz e => by have := HB8.out; rcases hz with hz | hz; exact hz.1.2 e; omega)⟩))
        | 6 => rw [ergf6] at h ⊢; ((obtain ⟨o9, k9, e9, h9⟩ := h; exact ⟨o9, k9, e9, h9.upd hx (fun b hz e => by have := HB8.out; rcases hz with hz | hz; exact hz.1.2 e; omega)⟩))
        | 7 => rw [ergf7] at h ⊢; ((obtain ⟨o9, k9, e9, h9⟩ := h; exact ⟨o9, k9, e9, h9.upd hx (fun b hz e => by have := HB8.out; rcases hz with hz | hz; exact hz.1.2 e; omega)⟩))
        | 8 => rw [ergf8] at h ⊢; exact h
        | 9 => rw [ergf9] at h ⊢; exact h
        | 10 => rw [ergf10] at h ⊢; exact h
        | j + 11 => rw [hErgf]; trivial
      have crgf : Crgf (Array.replicate 11 false) wv.drew := by rw [hCrgf]; exact ⟨HQX.out.2.2.2.trans ((Below.refl wv.heap.size wv).drew.mono HQX.out.2.2.2.size), fun _ => (Below.refl _ _).drew, fun e => absurd e (by decide)⟩
      have brgf : ∀ L w w1, Crgf L w → Below w.heap.size w w1 → Crgf L w1 := by
        intro L w w1 h hb
        rw [hCrgf] at h ⊢
        (obtain ⟨q1, q2, q4⟩ := h; exact ⟨q1.trans (hb.mono q1.size), fun e => (q2 e).trans (hb.mono (q2 e).size), fun e => by obtain ⟨o9, k9, h1⟩ := q4 e; exact ⟨o9, k9, h1.below hb⟩⟩)
      have xbrgf : ∀ w w1, Below w.heap.size w w1 → Xrgf w w1 := by
        intro w w1 hb
        rw [hXrgf]
        exact Upd.ofBelow hb
      have Hrgfb := Lib.hid brgf
      have Hrgfxb := Lib.hid xbrgf
      clear brgf xbrgf
      clear hErgf
      have Hrgfk := Lib.hid krgf
      have Hrgfx := Lib.hid xrgf
      have Hrgfst := Lib.hid strgf
      have Hrgfc := Lib.hid crgf
      have HrgfhC := Lib.hid hCrgf
      have HrgfhX := Lib.hid hXrgf
      have Hrgfe0 := Lib.hid ergf0
      have Hrgfe1 := Lib.hid ergf1
      have Hrgfe2 := Lib.hid ergf2
      have Hrgfe3 := Lib.hid ergf3
      have Hrgfe4 := Lib.hid ergf4
      have Hrgfe5 := Lib.hid ergf5
      have Hrgfe6 := Lib.hid ergf6
      have Hrgfe7 := Lib.hid ergf7
      have Hrgfe8 := Lib.hid ergf8
      have Hrgfe9 := Lib.hid ergf9
      have Hrgfe10 := Lib.hid ergf10
      clear krgf xrgf strgf crgf hCrgf hXrgf ergf0 ergf1 ergf2 ergf3 ergf4 ergf5 ergf6 ergf7 ergf8 ergf9 ergf10
      go_wp2_with fail
      refine Reg.regionF Ergf Crgf Xrgf Hrgfst.out (by kernel_rfl) (by kernel_rfl) (by kernel_rfl) Hrgfc.out (fun Frgf hFrgf => ?_)
      simp only [Reg.frame, Reg.dsts, List.map_cons, List.map_nil, Mix.put_lit, Reg.put_none, List.set_cons_succ, List.set_cons_zero, Nat.zero_add, Nat.reduceAdd] at hFrgf
      refine ⟨?_, ?_⟩
      · refine ⟨?_, ?_, ?_, ?_, ?_, ?_, ?_, ?_, ?_, ?_, ?_, trivial⟩
        · intro Lq wq xq hh
          simp only [hFrgf]
          refine .inl ⟨rfl, ?_⟩
          unfold Reg.upon
          have hc : Crgf Lq wq := hh.cls
          rw [HrgfhC.out] at hc
          have hq := (HQX.out.below (hc.2.1 (Mix.one_un (hh.notYet 9 (by kernel_rfl))))).2.1
          rw [HLX.out] at hq
          have q0 := hq.cell 0 _ rfl
          have q1 := hq.cell 1 _ rfl
          have q2 := hq.cell 2 _ rfl
          have q3 := hq.cell 3 _ rfl
          have q4 := hq.cell 4 _ rfl
          clear hc
          have hk := Hrgfk.out 0 Lq wq (by decide)  hh.cls
          have hx := Hrgfx.out wq
          have he : Ergf 0 (.agg #[.slice o n k, .int .i64 r, .int .i64 c, .bool pd, .bool au]) wq := by rw [Hrgfe0.out]
          have HK := Lib.hid (And.intro hk (And.intro he hx))
          clear hk hx he
          go_simp
          exact HK.out
        · intro Lq wq xq hh
          simp only [hFrgf]
          refine .inl ⟨rfl, ?_⟩
          unfold Reg.upon
          have hk := Hrgfk.out 1 Lq wq (by decide)  hh.cls
          have hx := Hrgfx.out wq
          have he : Ergf 1 (.slice (some ⟨bl, ol, none⟩) m lc) wq := by rw [Hrgfe1.out]
          have HK := Lib.hid (And.intro hk (And.intro he hx))
          clear hk hx he
          go_simp
          exact HK.out
        · intro Lq wq xq hh
          simp only [hFrgf]
          refine .inl ⟨rfl, ?_⟩
          unfold Reg.upon
          have hk := Hrgfk.out 2 Lq wq (by decide)  hh.cls
          have hx := Hrgfx.out wq
          have he : Ergf 2 (.int .i64 i) wq := by rw [Hrgfe2.out]
          have HK := Lib.hid (And.intro hk (And.intro he hx))
          clear hk hx he
          go_simp
          exact HK.out
        · intro Lq wq xq hh
          have d1 : Ergf 1 (xq 1) wq := hh.val 1 (by kernel_rfl) (by kernel_rfl)
          rw [Hrgfe1.out] at d1
          have d2 : Ergf 2 (xq 2) wq := hh.val 2 (by kernel_rfl) (by kernel_rfl)
          rw [Hrgfe2.out] at d2
          simp only [hFrgf, d1, d2]
          clear d1 d2
          refine .inl ⟨rfl, ?_⟩
          unfold Reg.upon
          have hk := Hrgfk.out 3 Lq wq (by decide)  hh.cls
          have hx := Hrgfx.out wq
          have he : Ergf 3 (.pointer (some ⟨bl, ol + i, none⟩)) wq := by rw [Hrgfe3.out]
          have HK := Lib.hid (And.intro hk (And.intro he hx))
          clear hk hx he
          go_simp
          exact HK.out
        · intro Lq wq xq hh
          have d3 : Ergf 3 (xq 3) wq := hh.val 3 (by kernel_rfl) (by kernel_rfl)
          rw [Hrgfe3.out] at d3
          simp only [hFrgf, d3]
          clear d3
          refine .inl ⟨rfl, ?_⟩
          unfold Reg.upon
          have hc : Crgf Lq wq := hh.cls
          rw [HrgfhC.out] at hc
          have y0 := HBW.out wq hc.1
          clear hc
          have hk := Hrgfk.out 4 Lq wq (by decide)  hh.cls
          have hx := Hrgfx.out wq
          have he : Ergf 4 (.int .i32 K) wq := by rw [Hrgfe4.out]
          have HK := Lib.hid (And.intro hk (And.intro he hx))
          clear hk hx he
          go_simp
          exact HK.out
        · intro Lq wq xq hh
          have d0 : Ergf 0 (xq 0) wq := hh.val 0 (by kernel_rfl) (by kernel_rfl)
          rw [Hrgfe0.out] at d0
          have d4 : Ergf 4 (xq 4) wq := hh.val 4 (by kernel_rfl) (by kernel_rfl)
          rw [Hrgfe4.out] at d4
          simp only [hFrgf, d0, d4]
          clear d0 d4
          refine .inl ⟨rfl, ?_⟩
          unfold Reg.upon
          have hc : Crgf Lq wq := hh.cls
          rw [HrgfhC.out] at hc
          have hb := hc.2.1 (Mix.one_un (hh.notYet 9 (by kernel_rfl)))
          have hhd := (HQX.out.2.2.1.zone (Y := fun x => (¬ PZ wv gp gr R x ∧ x ≠ b8) ∧ x < wv.heap.size) (fun x hx hz => ⟨hz, hx⟩)).below hb
          rw [HLX.out] at hhd
          have hrs := HRS.out (fun x => (¬ PZ wv gp gr R x ∧ x ≠ b8) ∧ x < wv.heap.size) wq hhd (fun x hx => Nat.lt_of_lt_of_le hx.2 hb.size)
          clear hhd
          go_simp
          refine hrs.mono ?_
          rintro e w2 ⟨v9, rfl, h9, b9⟩
          obtain ⟨o9, k9, ev9⟩ := h9.len
          rw [HLP.out] at ev9
          subst ev9
          refine ⟨_, rfl, Hrgfk.out 5 Lq w2 (by decide) (Hrgfb.out Lq wq w2 hh.cls b9), ?_, Hrgfxb.out wq w2 b9⟩
          rw [Hrgfe5.out]
          refine ⟨o9, k9, rfl, h9.zone (fun x _ hz => ?_)⟩
          rcases hz with hz | hz
          · exact .inl hz
          · exact .inr (Nat.le_trans hb.size hz.1)
        · intro Lq wq xq hh
          have d5 : Ergf 5 (xq 5) wq := hh.val 5 (by kernel_rfl) (by kernel_rfl)
          rw [Hrgfe5.out] at d5
          simp only [hFrgf]
          refine .inl ⟨rfl, ?_⟩
          unfold Reg.upon
          go_simp
          exact ⟨Hrgfk.out 6 Lq wq (by decide) hh.cls, (by rw [Hrgfe6.out]; exact d5), Hrgfx.out _⟩
        · intro Lq wq xq hh
          have d6 : Ergf 6 (xq 6) wq := hh.val 6 (by kernel_rfl) (by kernel_rfl)
          rw [Hrgfe6.out] at d6
          simp only [hFrgf]
          refine .inl ⟨rfl, ?_⟩
          unfold Reg.upon
          obtain ⟨o9, k9, e9, h9⟩ := d6
          rw [e9]
          go_simp
          exact ⟨Hrgfk.out 7 Lq wq (by decide) hh.cls, (by rw [Hrgfe7.out]; exact ⟨o9, k9, rfl, h9⟩), Hrgfx.out _⟩
        · intro Lq wq xq hh
          have d6 : Ergf 6 (xq 6) wq := hh.val 6 (by kernel_rfl) (by kernel_rfl)
          rw [Hrgfe6.out] at d6
          simp only [hFrgf]
          refine .inl ⟨rfl, ?_⟩
          unfold Reg.upon
          obtain ⟨o9, k9, e9, h9⟩ := d6
          rw [e9]
          go_simp
          exact ⟨Hrgfk.out 8 Lq wq (by decide) hh.cls, (by rw [Hrgfe8.out]), Hrgfx.out _⟩
        · intro Lq wq xq hh
          have d7 : Ergf 7 (xq 7) wq := hh.val 7 (by kernel_rfl) (by kernel_rfl)
          rw [Hrgfe7.out] at d7
          simp only [hFrgf]
          refine .inl ⟨rfl, ?_⟩
          unfold Reg.upon
          have hc : Crgf Lq wq := hh.cls
          rw [HrgfhC.out] at hc
          have hb := hc.2.1 hh.un
          obtain ⟨o9, k9, e9, hz⟩ := d7
          have hqb := (HQX.out.below hb).2.1
          have s0 := hqb.cell 0 _ rfl
          have s1 := hqb.cell 1 _ rfl
          have s2 := hqb.cell 2 _ rfl
          have s3 := hqb.cell 3 _ rfl
          have s4 := hqb.cell 4 _ rfl
          have f0 := hqb.free 0
          have f1 := hqb.free 1
          have f2 := hqb.free 2
          have f3 := hqb.free 3
          have f4 := hqb.free 4
          have q10 := QAt.put (r3 := rr) (c3 := cc) (pd3 := pp) (au3 := au) HWB8.out HQX.out hb (hz.zone (Y := fun x => ((¬ PZ wv gp gr R x ∧ x ≠ b8) ∧ x < wv.heap.size) ∨ (wv.heap.size ≤ x ∧ x < wq.heap.size)) (fun x hx hy => by rcases hy with hy | hy; exact .inl hy; exact .inr ⟨hy, hx⟩))
          have hF : Crgf (Lq.setIfInBounds 9 true) (((((wq.setCell ⟨b8, 0, none⟩ (.slice o9 n k9)).setCell ⟨b8, 1, none⟩ (.int .i64 rr)).setCell ⟨b8, 2, none⟩ (.int .i64 cc)).setCell ⟨b8, 3, none⟩ (.bool pp)).setCell ⟨b8, 4, none⟩ (.bool au)) := by
            rw [HrgfhC.out]
            refine ⟨q10.2.2.2, fun e => ?_, fun _ => ⟨o9, k9, q10⟩⟩
            rw [Mix.one_set (by rw [hh.size]; decide)] at e
            exact absurd e (by decide)
          have hE : Ergf 9 undef (((((wq.setCell ⟨b8, 0, none⟩ (.slice o9 n k9)).setCell ⟨b8, 1, none⟩ (.int .i64 rr)).setCell ⟨b8, 2, none⟩ (.int .i64 cc)).setCell ⟨b8, 3, none⟩ (.bool pp)).setCell ⟨b8, 4, none⟩ (.bool au)) := by rw [Hrgfe9.out]
          have hX : Xrgf wq (((((wq.setCell ⟨b8, 0, none⟩ (.slice o9 n k9)).setCell ⟨b8, 1, none⟩ (.int .i64 rr)).setCell ⟨b8, 2, none⟩ (.int .i64 cc)).setCell ⟨b8, 3, none⟩ (.bool pp)).setCell ⟨b8, 4, none⟩ (.bool au)) := by rw [HrgfhX.out]; exact pres_upd _ _ _ _ _ _
          rw [e9]
          clear hc hz hqb q10 hb
          go_simp
          exact ⟨hF, hE, hX⟩
        · intro Lq wq xq hh
          have d8 : Ergf 8 (xq 8) wq := hh.val 8 (by kernel_rfl) (by kernel_rfl)
          rw [Hrgfe8.out] at d8
          simp only [hFrgf, d8]
          clear d8
          refine .inl ⟨rfl, ?_⟩
          unfold Reg.upon
          have hk := Hrgfk.out 10 Lq wq (by decide)  hh.cls
          have hx := Hrgfx.out wq
          have he : Ergf 10 (.bool sk) wq := by rw [Hrgfe10.out]
          have HK := Lib.hid (And.intro hk (And.intro he hx))
          clear hk hx he
          go_simp
          exact HK.out
      intro xq wrgf hcrgf hvrgf
      rw [HrgfhC.out] at hcrgf
      simp only [hFrgf]
      have vrgf10 : Ergf 10 (xq 10) wrgf := hvrgf 10 (by decide)
      rw [Hrgfe10.out] at vrgf10
      rw [vrgf10]
      clear hvrgf hFrgf Hrgfk Hrgfx Hrgfst Hrgfc HrgfhC HrgfhX Hrgfb Hrgfxb Hrgfe0 Hrgfe1 Hrgfe2 Hrgfe3 Hrgfe4 Hrgfe5 Hrgfe6 Hrgfe7 Hrgfe8 Hrgfe9 Hrgfe10
      obtain ⟨o9, k9, hqf⟩ := hcrgf.2.2 (by kernel_rfl)
      have HS := Lib.hid hqf
      clear hqf hcrgf HQX HRS vrgf10
      have hss : (sk != sk) = false := by simp
      have z0 := HBW.out _ HS.out.2.2.2
      go_wp2_with fail
      refine (HPS.out _ HS.out.1).mono ?_
      rintro e wb ⟨rfl, kb⟩
      obtain ⟨R3, hq3⟩ := QAt.go HWB.out (Nat.le_trans HS.out.1.2.1 (Nat.le_of_lt HS.out.1.lt)) HS.out kb
      have HS3 := Lib.hid hq3
      clear kb hq3 z0
      have z0 := HBW.out _ HS3.out.2.2.2
      go_wp2_with fail
      refine (HPN.out _).mono ?_
      rintro e wc ⟨rfl, bc⟩
      have HS4 := Lib.hid (HS3.out.below bc)
      clear bc z0
      have hb5 := (Below.refl wc.heap.size wc).alloc (Nat.le_refl _) (.cells [Value.pointer none, .int .i64 0, .int .i64 0, .bool false, .bool false].toArray 38)
      have hn5 := Has.new wc [Value.pointer none, .int .i64 0, .int .i64 0, .bool false, .bool false] 38
      obtain ⟨wd5, hwd5⟩ : ∃ wd5, wd5 = wc.alloc (.cells [Value.pointer none, .int .i64 0, .int .i64 0, .bool false, .bool false].toArray 38) := ⟨_, rfl⟩
      rw [← hwd5] at hb5 hn5
      have HS5 := Lib.hid (HS4.out.below hb5)
      have HDE := Lib.hid (HPE.out _ _ _ hn5)
      have z0 := HBW.out _ HS5.out.2.2.2
      have HWD5 := Lib.hid (show wd5 = wc.alloc (.cells #[Value.pointer none, .int .i64 0, .int .i64 0, .bool false, .bool false] 38) from hwd5)
      rw [hwd5] at z0
      clear hb5 hn5 hwd5
      go_wp2_with fail
      rw [← HWD5.out]
      refine HDE.out.mono ?_
      rintro e wf ⟨rfl, bf⟩
      have HS6 := Lib.hid (HS5.out.below bf)
      clear bf z0
      have hqb := HS6.out.2.1
      rw [HLP.out] at hqb
      have q0 := hqb.cell 0 _ rfl
      have q1 := hqb.cell 1 _ rfl
      have q2 := hqb.cell 2 _ rfl
      have q3 := hqb.cell 3 _ rfl
      have q4 := hqb.cell 4 _ rfl
      have hal := alike_any BP gp gg gr wd _ LP rr cc pp au _ _ wf HS6.out.1 HS6.out.2.2.1
      rw [HLP.out] at hal
      have HAL := Lib.hid hal
      clear hal hqb
      go_wp2_with fail
      refine HAL.out.mono ?_
      rintro e wz ⟨rfl, bz⟩
      have HZZ := Lib.hid (HS6.out.below bz)
      clear bz q0 q1 q2 q3 q4
      go_wp2
      go_roundw
      case rel => exact ⟨i + 1, _, _, _, _, _, _, _, _, by omega, by go_num, HZZ.out, HLP.out⟩
      case measure => simp [intOf] <;> omega
    · obtain rfl : i = m := by omega
      have j1 : decide ((i : Int) < (i : Int)) = false := by rw [decide_eq_false_iff_not]; omega
      have HF := Lib.hid HQ.out.2.2.2
      clear hq hlx
      go_wp2
      go_ret
      exact ⟨(ret_eq (by first | rfl | (simp <;> omega))), HF.out⟩
set_option maxRecDepth 100000 in
theorem walk {H : Type} {enc : TypeId × Value → H} (W : World) (u : Value) {base : Nat} {d : DataW H} {p : List MemPlace} (hv : Value.okWide Tryd.prog W .any base 26 u) (h : DataW.Trod enc Tryd.prog W 0 (fun _ => true) true 26 u d p) (v : Value) {base' : Nat} {d' : DataW H} {p' : List MemPlace} (hv' : Value.okWide Tryd.prog W .any base' 58 v) (h' : DataW.Trod enc Tryd.prog W 0 (fun _ => true) true 58 v d' p') (hL : laidMetH Tryd.prog Rows.ctrlDoesRow.laid W) : Calls Tryd.prog 5 #[u, v] W (Yes W) := by
  have hE := opens_triple (P := Tryd.prog) Tryd.underlying26 (by kernel_rfl) rfl rfl rfl (opens_slice Tryd.underlying22 (by kernel_rfl) (by decide) (opens_pair Tryd.underlying56 (by kernel_rfl) rfl rfl (opens_slice Tryd.underlying54 (by kernel_rfl) (by decide) (opens_pair Tryd.underlying73 (by kernel_rfl) rfl rfl (opens_int (k := .i64) Tryd.underlying3 (by kernel_rfl)) (opens_slice Tryd.underlying58 (by kernel_rfl) (by decide) (opens_int (k := .i32) Tryd.underlying21 (by kernel_rfl))))) (opens_bool Tryd.underlying4 (by kernel_rfl)))) (opens_triple Tryd.underlying24 (by kernel_rfl) rfl rfl rfl (opens_int (k := .i64) Tryd.underlying3 (by kernel_rfl)) (opens_int (k := .i64) Tryd.underlying3 (by kernel_rfl)) (opens_bool Tryd.underlying4 (by kernel_rfl))) (opens_bool Tryd.underlying4 (by kernel_rfl))
  obtain ⟨cs, ⟨Ls, ⟨P, Q, S⟩, au⟩, rfl, ⟨C1, C2, hcs, ⟨tv, rfl, ht⟩, C3, C4, rfl, ⟨C5, C6, rfl, rfl, C7, C8, rfl, rfl, rfl⟩, rfl⟩, _⟩ := opens_struct Tryd.underlying26 hE hv h
  obtain rfl : cs = #[tv, .int .i64 P, .int .i64 Q, .bool S, .bool au] := by
    apply Array.toList_inj.1
    rw [hcs]
    rfl
  obtain ⟨A, hA, _⟩ := opens_arg (E := intE .i32) Tryd.underlying58 (by kernel_rfl) (by decide) (opens_int (k := .i32) Tryd.underlying21 (by kernel_rfl)) hv' h'
  exact walkH W tv v Ls P Q S au A _ _ ht hA

theorem door_met (os : Os) : laidMetH Tryd.prog Rows.ctrlDoesRow.laid ((World.doorLaid Tryd.prog 400 os).forCall (fun _ _ => 0) ⟨#[], #[.agg #[.slice none 0 0, .int .i64 0, .int .i64 0, .bool false, .bool false], .slice none 0 0], []⟩).memory :=
  laidMetH_of_parts3 (fuel := 8) (laidMet_of_run' 8 (by kernel_rfl) (by kernel_rfl)) (by kernel_rfl) (by kernel_rfl)

set_option maxRecDepth 100000 in
theorem lifted (os : Os) (started : os.Started) (H : Type) (enc : TypeId × Value → H) :
    ReturnsInHanded {} Tryd.checked os 5 .any (fun w args => (Rows.ctrlDoesSpec.pre enc Tryd.prog Tryd.f5 [] false w args ∧ laidMetH Tryd.prog Rows.ctrlDoesRow.laid w) ∧ sizedMet enc Tryd.prog Tryd.f5 (OpenSpec.ofChange Rows.ctrlDoesSpec) false w args)
      (Rows.ctrlDoesSpec.post enc Tryd.prog Tryd.f5 false true false false) := by
  refine law_frame (C := Tryd.checked) (tb := 4) (by kernel_rfl) started (by kernel_rfl) Tryd.func5 (by kernel_rfl) (by kernel_rfl) Tryd.underlying4 rfl
    (by rw [Tryd.params5]; intro t ht; simp at ht; rcases ht with rfl | rfl <;> exact ⟨by kernel_rfl, of_decide_eq_true (by kernel_rfl)⟩)
    (by rw [Tryd.params5]; intro ds hd; match ds, hd with | [_, _], _ => rfl)
    (ChangeSpec.witness_shaped (enc := enc) (C := Tryd.checked) (os := os) (X := fun w _ => laidMetH Tryd.prog Rows.ctrlDoesRow.laid w) false (World.doorLaid Tryd.prog 400 os) #[.agg #[.slice none 0 0, .int .i64 0, .int .i64 0, .bool false, .bool false], .slice none 0 0] 8 rfl (World.shaped_of_RefB (by kernel_rfl) (by kernel_rfl)) (by kernel_rfl) (by kernel_rfl) (by kernel_rfl) (door_met os)) ?_
  intro W base args ds before hval hA hsz hL
  rw [Tryd.params5] at hA hval
  obtain ⟨v0, vs0, d0, ds0, p0, q0, hargs, rfl, rfl, h0, r0⟩ := trodAll_cons hA
  obtain ⟨v1, vs1, d1, ds1, p1, q1, rfl, rfl, rfl, h1, r1⟩ := trodAll_cons r0
  obtain ⟨rfl, rfl, rfl⟩ := trodAll_nil r1
  obtain rfl : args = #[v0, v1] := by cases args; simp_all

  exact walk W v0 (hval 0 26 v0 rfl rfl) h0 v1 (hval 1 58 v1 rfl rfl) h1 hL

theorem said : Rows.CtrlDoesSaid :=
  OpenClaim.holds_of_wide 5 Tryd.f5 rfl rfl rfl rfl rfl rfl rfl ⟨rfl, rfl, rfl, rfl, rfl⟩ rfl rfl rfl rfl rfl (by kernel_rfl) Tryd.func5 (by kernel_rfl)
    (of_decide_eq_true (by kernel_rfl)) (by unfold Func.isWrapper; first | (rw [if_pos (by decide +kernel)]; kernel_rfl) | (rw [if_neg (by decide +kernel)]; exact ⟨rfl, rfl⟩))
    (fun os started H enc _ => lifted os started H enc)

theorem plain (f : FuncId) (fn : Func) (hf : Tryd.pinned.checked.prog.funcNamed "linotype/linotypelaw36.CtrlDoes" = some f) (hfn : Tryd.pinned.checked.prog.funcs[f]? = some fn) :
    true = Tryd.pinned.checked.prog.looks [] ∧ ∀ (j : Nat) t, fn.params[j]? = some t → Tryd.pinned.checked.prog.wantsStandIn t = false := by
  obtain rfl : f = 5 := Option.some.inj ((show Tryd.prog.funcNamed "linotype/linotypelaw36.CtrlDoes" = some 5 by kernel_rfl).symm.trans hf) |>.symm
  obtain rfl : fn = Tryd.f5 := (Option.some.inj (Tryd.func5.symm.trans hfn)).symm
  refine ⟨by kernel_rfl, fun j t ht => ?_⟩
  rw [Tryd.params5] at ht
  have hm : t ∈ [26, 58] := by simpa using Array.mem_of_getElem? ht
  have hall : ([26, 58].all fun u => !Tryd.prog.wantsStandIn u) = true := by kernel_rfl
  exact (show Tryd.prog.wantsStandIn t = false by simpa using List.all_eq_true.1 hall t hm)

/-- THE CARD. -/
theorem card : Rows.CtrlDoesCardSaid :=
  Claim7.holds_tied_plain_at .later [] _ _ _ _ said (fun _ h => by cases h) (by kernel_rfl) (fun _ h => by cases h) ctrlDoes_row_tie rfl ⟨rfl, rfl⟩ (by kernel_rfl) rfl plain (by kernel_rfl)
#print axioms card

end Go.Proofs.YtgndolgihplngaaDoor.lawCtrlDoes
