/- GridMakes (32.1) answers true at all sides and all lines, and turns nothing. Conditions: api's eight errors and errors' errorType read as their initialisers lay them (tied to the program's text by the card). -/
import Derived.Test.YtmclmhdlnlcafaaDoorGrdE
import Derived.Test.YtmclmhdlnlcafaaDoorErfS
import Derived.Test.YtmclmhdlnlcafaaDoorErrS
import Derived.Test.YtmclmhdlnlcafaaDoorMg1
import Derived.Test.YtmclmhdlnlcafaaDoorCards
import Derived.Test.YtmclmhdlnlcafaaDoorTie
import Derived.ProofKit
namespace Go.Proofs.YtmclmhdlnlcafaaDoor.lawGridMakes
open Go.ChangeShapes Go.WideShapes Go.ChangeAt Go.RowKit
set_option maxRecDepth 100000 in
theorem lines_arg {H : Type} {enc : TypeId × Value → H} {W : World} {base : Nat} {v : Value} {d : DataW H} {p : List MemPlace} (hv : Value.okWide Tryd.prog W .any base 60 v) (h : DataW.Trod enc Tryd.prog W 0 (fun _ => true) true 60 v d p) : ∃ L, HeldE lineE (fun _ => True) W v L := by
  obtain ⟨L, hL, _⟩ := opens_arg (E := lineE) Tryd.underlying60 (by kernel_rfl) (by decide) (opens_pair Tryd.underlying73 (by kernel_rfl) rfl rfl (opens_slice Tryd.underlying22 (by kernel_rfl) (by decide) (opens_pair Tryd.underlying40 (by kernel_rfl) rfl rfl (opens_int Tryd.underlying3 (by kernel_rfl)) (opens_slice Tryd.underlying31 (by kernel_rfl) (by decide) (opens_int Tryd.underlying21 (by kernel_rfl))))) (opens_bool Tryd.underlying4 (by kernel_rfl))) hv h
  exact ⟨L, hL.zone (fun _ _ _ => trivial)⟩
set_option maxRecDepth 100000 in
set_option maxHeartbeats 3000000 in
theorem walkH (W : World) (a b : Int) (va : Value) (Ls : List Ln) (Z : Zone) (ha : HeldE lineE Z W va Ls) (sa : Nat → Addr) (hsa : F.Sents W sa) (hhd : F.Handle W) : Calls Tryd.prog 9 #[.int .i64 a, .int .i64 b, va] W (Yes W) := by
  have hla := ha.max
  have ha := ha.lower
  obtain ⟨ao, ca, rfl⟩ := ha.len
  obtain ⟨n, hn⟩ : ∃ n, n = Ls.length := ⟨_, rfl⟩
  have hc := (lines_at ha).2.2
  have hcap := (lines_at ha).2.1
  have HN := Lib.hid hn
  rw [← hn] at ha hc hcap hla ⊢
  have HA := Lib.hid ha
  have HC := Lib.hid hc
  have HSA := Lib.hid hsa
  have HHD := Lib.hid hhd
  clear ha hsa hhd hn hc
  by_cases h1 : 40 < n
  · go_enter Tryd.func9, Tryd.ntmps9
    go_wp2_with fail
    refine (works32_any _).mono ?_
    rintro e w1 ⟨rfl, b1⟩
    go_wp2_with fail
    refine (works32_any _).mono ?_
    rintro e w2 ⟨rfl, b2⟩
    have b2 := b1.trans (b2.mono b1.size)
    go_wp2
    go_ret
    exact ⟨(ret_eq (by first | rfl | (simp <;> omega))), b2⟩
  have hd40 : decide ((40 : Int) < n) = false := by simp; omega
  have hd40n : decide (40 < n) = false := by simp; omega
  have hab : (decide (300 < a) = false) ∨ (decide (300 < a) = true ∧ decide (300 < b) = false) ∨ (decide (300 < a) = true ∧ decide (300 < b) = true) := by
    by_cases h2 : 300 < a
    · by_cases h3 : 300 < b
      · exact .inr (.inr ⟨by rw [decide_eq_true_eq]; exact h2, by rw [decide_eq_true_eq]; exact h3⟩)
      · exact .inr (.inl ⟨by rw [decide_eq_true_eq]; exact h2, by rw [decide_eq_false_iff_not]; exact h3⟩)
    · exact .inl (by rw [decide_eq_false_iff_not]; exact h2)
  rcases hab with hda | ⟨hda, hdb⟩ | ⟨hda, hdb⟩
  rotate_left 2
  · go_enter Tryd.func9, Tryd.ntmps9
    go_wp2_with fail
    refine (works32_any _).mono ?_
    rintro e w1 ⟨rfl, b1⟩
    go_wp2_with fail
    refine (works32_any _).mono ?_
    rintro e w2 ⟨rfl, b2⟩
    have b2 := b1.trans (b2.mono b1.size)
    go_wp2
    go_ret
    exact ⟨(ret_eq (by first | rfl | (simp <;> omega))), b2⟩
  all_goals
    go_enter Tryd.func9, Tryd.ntmps9
    go_wp2_with fail
    refine (works32_any _).mono ?_
    rintro e w1 ⟨rfl, b1⟩
    have B := Lib.hid b1
    clear b1
    have h1 := gnew_any a b w1
    go_wp2_with fail
    refine h1.mono ?_
    rintro e w2 ⟨gg, gr, Rs, rfl, hg, hm, b2⟩
    have hN : Rs.length = rowN b := by have := congrArg List.length hm; simpa using this
    have h2 := gwide_any _ gg gr _ Rs w2 hg
    have h3 := rside_any a w2
    have h4 := ghigh_any _ gg gr _ Rs w2 hg
    have h5 := rside_any b w2
    rw [hN] at h4
    have h6 := glines_any _ gg gr _ Rs w2 hg
    rw [hm] at h6
    have hra : rowN a ≤ 1024 := by unfold rowN; omega
    have hrb : rowN b ≤ 1024 := by unfold rowN; omega
    have HRA := Lib.hid hra
    have HRB := Lib.hid hrb
    obtain ⟨na, hna⟩ : ∃ na, na = rowN a := ⟨_, rfl⟩
    obtain ⟨nb, hnb⟩ : ∃ nb, nb = rowN b := ⟨_, rfl⟩
    rw [← hna] at h2 h3 h6 HRA
    rw [← hnb] at h4 h5 h6 HRB
    replace B := Lib.hid (B.out.trans (b2.mono B.out.size))
    clear b2
    have hea : ((na : Int) != (na : Int)) = false := by simp
    have heb : ((nb : Int) != (nb : Int)) = false := by simp
    have HNA := Lib.hid hna
    have HNB := Lib.hid hnb
    clear hg hm hN h1 hra hrb hna hnb
    go_wp2_with fail
    refine h2.mono ?_
    rintro e w3 ⟨rfl, rfl⟩
    go_wp2_with fail
    refine h3.mono ?_
    rintro e w3 ⟨rfl, rfl⟩
    go_wp2_with fail
    refine h4.mono ?_
    rintro e w3 ⟨rfl, rfl⟩
    go_wp2_with fail
    refine h5.mono ?_
    rintro e w3 ⟨rfl, rfl⟩
    go_wp2_with fail
    clear h2 h4 hea heb
    refine h6.mono ?_
    rintro e w3 ⟨v3, rfl, ho3, b3⟩
    have H3 := Lib.hid (ho3.held (fun b h _ => h))
    replace B := Lib.hid (B.out.trans (b3.mono B.out.size))
    clear b3
    clear ho3 h6 h3 h5
    have h3 := rside_any a w3
    have h5 := rside_any b w3
    rw [← HNA.out] at h3
    rw [← HNB.out] at h5
    go_wp2_with fail
    refine h3.mono ?_
    rintro e w4 ⟨rfl, rfl⟩
    go_wp2_with fail
    refine h5.mono ?_
    rintro e w4 ⟨rfl, rfl⟩
    clear h3 h5
    have h7 := rlnew_any na nb HRA.out HRB.out w3
    go_wp2_with fail
    refine h7.mono ?_
    rintro e w4 ⟨v4, rfl, ho4, b4⟩
    have H4 := Lib.hid (ho4.held (fun _ _ _ => trivial))
    replace B := Lib.hid (B.out.trans (b4.mono B.out.size))
    replace H3 := Lib.hid (H3.out.below b4)
    clear b4
    clear ho4 h7
    have h8 := rlsame_any _ _ _ _ _ _ w4 H3.out H4.out
    rw [sameL_self] at h8
    go_wp2_with fail
    refine h8.mono ?_
    rintro e w5 ⟨rfl, b5⟩
    replace B := Lib.hid (B.out.trans (b5.mono B.out.size))
    clear b5
    clear h8 H3 H4
    by_cases h0 : n = 0
    · have h9 := gof_range sa _ _ Ls w5 (sents_f (HSA.out.below B.out)) (HA.out.below B.out) (.inl (by rw [← HN.out]; exact h0))
      have hz : ((n : Int) == 0) = true := by rw [beq_iff_eq]; omega
      clear h0
      go_wp2_with fail
      refine h9.mono ?_
      rintro e w6 ⟨rfl, b6⟩
      replace B := Lib.hid (B.out.trans (b6.mono B.out.size))
      clear b6
      clear h9
      have ha := code_sent sa w6 (sents_f (HSA.out.below B.out)) 2 (by decide)
      go_wp2_with fail
      refine ha.mono ?_
      rintro e w7 ⟨rfl, rfl⟩
      go_wp2
      go_ret
      exact ⟨(ret_eq (by first | rfl | (simp <;> omega))), B.out⟩
    have hz : ((n : Int) == 0) = false := by rw [beq_eq_false_iff_ne]; omega
    have h9 := gof_any sa _ _ Ls w5 (HSA.out.below B.out) (HA.out.below B.out) (by rw [← HN.out]; omega) (by rw [← HN.out]; omega)
    go_wp2_with fail
    refine h9.mono ?_
    rintro e w6 ⟨hgood, hbad, b6⟩
    have HX1 := Lib.hid hgood
    have HX2 := Lib.hid hbad
    have H5B := Lib.hid b6
    replace B := Lib.hid (B.out.trans (b6.mono B.out.size))
    clear b6
    clear h9 hgood hbad
    have ha := rlwrong_any _ _ Ls w6 (HA.out.below B.out)
    rcases wrong_cases Ls with hall | ⟨i, c, hfb⟩
    · obtain ⟨gg2, gr2, R2, rfl, hg2, hm2⟩ := HX1.out hall
      have G2 := Lib.hid hg2
      have HM2 := Lib.hid hm2
      have HALL := Lib.hid hall
      have HN2 := Lib.hid (show R2.length = n by have := congrArg List.length hm2; rw [HN.out]; simpa using this)
      clear hg2 hm2 hall HX1 HX2
      go_wp2_with fail
      refine ha.mono ?_
      rintro e w7 ⟨hq, _, b7⟩
      obtain rfl := hq HALL.out
      have G7 := Lib.hid (G2.out.below b7)
      replace B := Lib.hid (B.out.trans (b7.mono B.out.size))
      clear b7
      clear ha hq hz
      obtain ⟨b0, off0, cv, e0, hb0, _, z0, _, hz0⟩ := HC.out 0 (by omega)
      obtain ⟨a0, x0, rfl⟩ := hz0.len
      have HF := Lib.hid (show ∀ w9, Below W.heap.size W w9 → w9.cell? ⟨b0, off0, none⟩ = some (.slice a0 (firstN Ls) x0) from fun w9 h => (h.cell (p := ⟨b0, off0, none⟩) hb0).trans (by rw [Nat.zero_mul, Nat.add_zero] at z0; exact z0))
      have HSM := Lib.hid (fun (w9 : World) (v9 : Value) (Z9 : Zone) (h : HeldE lineE Z9 w9 v9 Ls) (hb : Below W.heap.size W w9) => by
        have := rlsame_any _ _ v9 _ Ls Ls w9 h (HA.out.below hb)
        rwa [sameL_self] at this)
      have HHG := Lib.hid (fun (w9 : World) (hb : Below w7.heap.size w7 w9) => by
        have := ghigh_any _ gg2 gr2 _ R2 w9 (G7.out.below hb)
        rwa [HN2.out] at this)
      obtain ⟨n0, hn0⟩ : ∃ n0, n0 = firstN Ls := ⟨_, rfl⟩
      rw [← hn0] at HF G7 G2
      have hnn : ((n0 : Int) == (n0 : Int)) = true := by simp
      have hnm : ((n : Int) == (n : Int)) = true := by simp
      subst e0
      have hnp : 0 < n := by omega
      clear hn0 hb0 z0 hz0
      go_upto_region 12 with (fail)
      obtain ⟨Erg, hErg⟩ : ∃ EE : Nat → Value → World → Prop, EE = fun jj xx ww => match jj with
          | 0 => xx = .nilIface
          | 1 => xx = .bool true
          | 2 => xx = .bool true
          | 3 => xx = .pointer (some ⟨gg2, 0, none⟩)
          | 4 => (fun x w' => HeldE lineE (fun b => w7.heap.size ≤ b) w' x Ls) xx ww
          | 5 => xx = .slice (some ⟨b0, off0, none⟩) n ca
          | 6 => xx = .bool true
          | 7 => xx = .bool true
          | 8 => xx = .bool true
          | 9 => xx = .pointer (some ⟨gg2, 0, none⟩)
          | 10 => xx = .int .i64 n0
          | 11 => xx = .slice (some ⟨b0, off0, none⟩) n ca
          | 12 => xx = .pointer (some ⟨b0, off0, none⟩)
          | 13 => xx = .pointer (some ⟨b0, off0, none⟩)
          | 14 => xx = .slice a0 n0 x0
          | 15 => xx = .int .i64 n0
          | 16 => xx = .bool true
          | 17 => xx = .bool true
          | 18 => xx = .bool true
          | 19 => xx = .pointer (some ⟨gg2, 0, none⟩)
          | 20 => xx = .int .i64 n
          | 21 => xx = .slice (some ⟨b0, off0, none⟩) n ca
          | 22 => xx = .int .i64 n
          | 23 => xx = .bool true
          | 24 => xx = .bool true
          | 25 => xx = .bool true
          | _ => True := ⟨_, rfl⟩
      have erg0 : ∀ xx ww, Erg 0 xx ww = (xx = .nilIface) := fun xx ww => congrFun (congrFun (congrFun hErg 0) xx) ww
      have erg1 : ∀ xx ww, Erg 1 xx ww = (xx = .bool true) := fun xx ww => congrFun (congrFun (congrFun hErg 1) xx) ww
      have erg2 : ∀ xx ww, Erg 2 xx ww = (xx = .bool true) := fun xx ww => congrFun (congrFun (congrFun hErg 2) xx) ww
      have erg3 : ∀ xx ww, Erg 3 xx ww = (xx = .pointer (some ⟨gg2, 0, none⟩)) := fun xx ww => congrFun (congrFun (congrFun hErg 3) xx) ww
      have erg4 : ∀ xx ww, Erg 4 xx ww = ((fun x w' => HeldE lineE (fun b => w7.heap.size ≤ b) w' x Ls) xx ww) := fun xx ww => congrFun (congrFun (congrFun hErg 4) xx) ww
      have erg5 : ∀ xx ww, Erg 5 xx ww = (xx = .slice (some ⟨b0, off0, none⟩) n ca) := fun xx ww => congrFun (congrFun (congrFun hErg 5) xx) ww
      have erg6 : ∀ xx ww, Erg 6 xx ww = (xx = .bool true) := fun xx ww => congrFun (congrFun (congrFun hErg 6) xx) ww
      have erg7 : ∀ xx ww, Erg 7 xx ww = (xx = .bool true) := fun xx ww => congrFun (congrFun (congrFun hErg 7) xx) ww
      have erg8 : ∀ xx ww, Erg 8 xx ww = (xx = .bool true) := fun xx ww => congrFun (congrFun (congrFun hErg 8) xx) ww
      have erg9 : ∀ xx ww, Erg 9 xx ww = (xx = .pointer (some ⟨gg2, 0, none⟩)) := fun xx ww => congrFun (congrFun (congrFun hErg 9) xx) ww
      have erg10 : ∀ xx ww, Erg 10 xx ww = (xx = .int .i64 n0) := fun xx ww => congrFun (congrFun (congrFun hErg 10) xx) ww
      have erg11 : ∀ xx ww, Erg 11 xx ww = (xx = .slice (some ⟨b0, off0, none⟩) n ca) := fun xx ww => congrFun (congrFun (congrFun hErg 11) xx) ww
      have erg12 : ∀ xx ww, Erg 12 xx ww = (xx = .pointer (some ⟨b0, off0, none⟩)) := fun xx ww => congrFun (congrFun (congrFun hErg 12) xx) ww
      have erg13 : ∀ xx ww, Erg 13 xx ww = (xx = .pointer (some ⟨b0, off0, none⟩)) := fun xx ww => congrFun (congrFun (congrFun hErg 13) xx) ww
      have erg14 : ∀ xx ww, Erg 14 xx ww = (xx = .slice a0 n0 x0) := fun xx ww => congrFun (congrFun (congrFun hErg 14) xx) ww
      have erg15 : ∀ xx ww, Erg 15 xx ww = (xx = .int .i64 n0) := fun xx ww => congrFun (congrFun (congrFun hErg 15) xx) ww
      have erg16 : ∀ xx ww, Erg 16 xx ww = (xx = .bool true) := fun xx ww => congrFun (congrFun (congrFun hErg 16) xx) ww
      have erg17 : ∀ xx ww, Erg 17 xx ww = (xx = .bool true) := fun xx ww => congrFun (congrFun (congrFun hErg 17) xx) ww
      have erg18 : ∀ xx ww, Erg 18 xx ww = (xx = .bool true) := fun xx ww => congrFun (congrFun (congrFun hErg 18) xx) ww
      have erg19 : ∀ xx ww, Erg 19 xx ww = (xx = .pointer (some ⟨gg2, 0, none⟩)) := fun xx ww => congrFun (congrFun (congrFun hErg 19) xx) ww
      have erg20 : ∀ xx ww, Erg 20 xx ww = (xx = .int .i64 n) := fun xx ww => congrFun (congrFun (congrFun hErg 20) xx) ww
      have erg21 : ∀ xx ww, Erg 21 xx ww = (xx = .slice (some ⟨b0, off0, none⟩) n ca) := fun xx ww => congrFun (congrFun (congrFun hErg 21) xx) ww
      have erg22 : ∀ xx ww, Erg 22 xx ww = (xx = .int .i64 n) := fun xx ww => congrFun (congrFun (congrFun hErg 22) xx) ww
      have erg23 : ∀ xx ww, Erg 23 xx ww = (xx = .bool true) := fun xx ww => congrFun (congrFun (congrFun hErg 23) xx) ww
      have erg24 : ∀ xx ww, Erg 24 xx ww = (xx = .bool true) := fun xx ww => congrFun (congrFun (congrFun hErg 24) xx) ww
      have erg25 : ∀ xx ww, Erg 25 xx ww = (xx = .bool true) := fun xx ww => congrFun (congrFun (congrFun hErg 25) xx) ww
      obtain ⟨Crg, hCrg⟩ : ∃ CC : Array Bool → World → Prop, CC = fun L8 w' => Below w7.heap.size w7 w' := ⟨_, rfl⟩
      have krg : ∀ i L w,  Crg L w → Crg (L.setIfInBounds i true) w := by
        intro i L w  h
        rw [hCrg] at h ⊢
        exact h
      obtain ⟨Xrg, hXrg⟩ : ∃ XX : World → World → Prop, XX = fun x y => Below x.heap.size x y := ⟨_, rfl⟩
      have xrg : ∀ w, Xrg w w := fun w => by rw [hXrg]; exact Below.refl _ _
      have strg : ∀ j x w w1, Xrg w w1 → Erg j x w → Erg j x w1 := by
        intro j x w w1 hx h
        rw [hXrg] at hx
        match j with
        | 0 => rw [erg0] at h ⊢; exact h
        | 1 => rw [erg1] at h ⊢; exact h
        | 2 => rw [erg2] at h ⊢; exact h
        | 3 => rw [erg3] at h ⊢; exact h
        | 4 => rw [erg4] at h ⊢; (exact HeldE.below h hx)
        | 5 => rw [erg5] at h ⊢; exact h
        | 6 => rw [erg6] at h ⊢; exact h
        | 7 => rw [erg7] at h ⊢; exact h
        | 8 => rw [erg8] at h ⊢; exact h
        | 9 => rw [erg9] at h ⊢; exact h
        | 10 => rw [erg10] at h ⊢; exact h
        | 11 => rw [erg11] at h ⊢; exact h
        | 12 => rw [erg12] at h ⊢; exact h
        | 13 => rw [erg13] at h ⊢; exact h
        | 14 => rw [erg14] at h ⊢; exact h
        | 15 => rw [erg15] at h ⊢; exact h
        | 16 => rw [erg16] at h ⊢; exact h
        | 17 => rw [erg17] at h ⊢; exact h
        | 18 => rw [erg18] at h ⊢; exact h
        | 19 => rw [erg19] at h ⊢; exact h
        | 20 => rw [erg20] at h ⊢; exact h
        | 21 => rw [erg21] at h ⊢; exact h
        | 22 => rw [erg22] at h ⊢; exact h
        | 23 => rw [erg23] at h ⊢; exact h
        | 24 => rw [erg24] at h ⊢; exact h
        | 25 => rw [erg25] at h ⊢; exact h
        | j + 26 => rw [hErg]; trivial
      have crg : Crg (Array.replicate 26 false) w7.drew := by rw [hCrg]; exact (Below.refl _ _).drew
      have brg : ∀ L w w1, Crg L w → Below w.heap.size w w1 → Crg L w1 := by
        intro L w w1 h hb
        rw [hCrg] at h ⊢
        exact h.trans (hb.mono h.size)
      have xbrg : ∀ w w1, Below w.heap.size w w1 → Xrg w w1 := by
        intro w w1 hb
        rw [hXrg]
        exact hb
      have Hrgb := Lib.hid brg
      have Hrgxb := Lib.hid xbrg
      clear brg xbrg
      clear hErg
      have Hrgk := Lib.hid krg
      have Hrgx := Lib.hid xrg
      have Hrgst := Lib.hid strg
      have Hrgc := Lib.hid crg
      have HrghC := Lib.hid hCrg
      have HrghX := Lib.hid hXrg
      have Hrge0 := Lib.hid erg0
      have Hrge1 := Lib.hid erg1
      have Hrge2 := Lib.hid erg2
      have Hrge3 := Lib.hid erg3
      have Hrge4 := Lib.hid erg4
      have Hrge5 := Lib.hid erg5
      have Hrge6 := Lib.hid erg6
      have Hrge7 := Lib.hid erg7
      have Hrge8 := Lib.hid erg8
      have Hrge9 := Lib.hid erg9
      have Hrge10 := Lib.hid erg10
      have Hrge11 := Lib.hid erg11
      have Hrge12 := Lib.hid erg12
      have Hrge13 := Lib.hid erg13
      have Hrge14 := Lib.hid erg14
      have Hrge15 := Lib.hid erg15
      have Hrge16 := Lib.hid erg16
      have Hrge17 := Lib.hid erg17
      have Hrge18 := Lib.hid erg18
      have Hrge19 := Lib.hid erg19
      have Hrge20 := Lib.hid erg20
      have Hrge21 := Lib.hid erg21
      have Hrge22 := Lib.hid erg22
      have Hrge23 := Lib.hid erg23
      have Hrge24 := Lib.hid erg24
      have Hrge25 := Lib.hid erg25
      clear krg xrg strg crg hCrg hXrg erg0 erg1 erg2 erg3 erg4 erg5 erg6 erg7 erg8 erg9 erg10 erg11 erg12 erg13 erg14 erg15 erg16 erg17 erg18 erg19 erg20 erg21 erg22 erg23 erg24 erg25
      go_wp2_with fail
      refine Reg.regionF Erg Crg Xrg Hrgst.out (by kernel_rfl) (by kernel_rfl) (by kernel_rfl) Hrgc.out (fun Frg hFrg => ?_)
      simp only [Reg.frame, Reg.dsts, List.map_cons, List.map_nil, Mix.put_lit, List.set_cons_succ, List.set_cons_zero, Nat.zero_add, Nat.reduceAdd] at hFrg
      refine ⟨?_, ?_⟩
      · refine ⟨?_, ?_, ?_, ?_, ?_, ?_, ?_, ?_, ?_, ?_, ?_, ?_, ?_, ?_, ?_, ?_, ?_, ?_, ?_, ?_, ?_, ?_, ?_, ?_, ?_, ?_, trivial⟩
        · intro Lq wq xq hh
          simp only [hFrg]
          refine .inl ⟨rfl, ?_⟩
          unfold Reg.upon
          have hk := Hrgk.out 0 Lq wq  hh.cls
          have hx := Hrgx.out wq
          have he : Erg 0 (.nilIface) wq := by rw [Hrge0.out]
          have HK := Lib.hid (And.intro hk (And.intro he hx))
          clear hk hx he
          go_simp
          exact HK.out
        · intro Lq wq xq hh
          have d0 : Erg 0 (xq 0) wq := hh.val 0 (by kernel_rfl) (by kernel_rfl)
          rw [Hrge0.out] at d0
          simp only [hFrg, d0]
          clear d0
          refine .inl ⟨rfl, ?_⟩
          unfold Reg.upon
          have hk := Hrgk.out 1 Lq wq  hh.cls
          have hx := Hrgx.out wq
          have he : Erg 1 (.bool true) wq := by rw [Hrge1.out]
          have HK := Lib.hid (And.intro hk (And.intro he hx))
          clear hk hx he
          go_simp
          exact HK.out
        · intro Lq wq xq hh
          have d1 : Erg 1 (xq 1) wq := hh.val 1 (by kernel_rfl) (by kernel_rfl)
          rw [Hrge1.out] at d1
          simp only [hFrg, d1]
          clear d1
          refine .inl ⟨rfl, ?_⟩
          unfold Reg.upon
          have hk := Hrgk.out 2 Lq wq  hh.cls
          have hx := Hrgx.out wq
          have he : Erg 2 (.bool true) wq := by rw [Hrge2.out]
          have HK := Lib.hid (And.intro hk (And.intro he hx))
          clear hk hx he
          go_simp
          exact HK.out
        · intro Lq wq xq hh
          have d2 : Erg 2 (xq 2) wq := hh.val 2 (by kernel_rfl) (by kernel_rfl)
          rw [Hrge2.out] at d2
          simp only [hFrg, d2]
          clear d2
          refine .inl ⟨rfl, ?_⟩
          unfold Reg.upon
          have hk := Hrgk.out 3 Lq wq  hh.cls
          have hx := Hrgx.out wq
          have he : Erg 3 (.pointer (some ⟨gg2, 0, none⟩)) wq := by rw [Hrge3.out]
          have HK := Lib.hid (And.intro hk (And.intro he hx))
          clear hk hx he
          go_simp
          exact HK.out
        · intro Lq wq xq hh
          have d2 : Erg 2 (xq 2) wq := hh.val 2 (by kernel_rfl) (by kernel_rfl)
          rw [Hrge2.out] at d2
          have d3 : Erg 3 (xq 3) wq := hh.val 3 (by kernel_rfl) (by kernel_rfl)
          rw [Hrge3.out] at d3
          simp only [hFrg, d2, d3]
          clear d2 d3
          refine .inl ⟨rfl, ?_⟩
          unfold Reg.upon
          have hc : Crg Lq wq := hh.cls
          rw [HrghC.out] at hc
          go_simp
          refine (glines_any _ gg2 gr2 n0 R2 wq (G7.out.below hc)).mono ?_
          rintro e w2 ⟨v2, rfl, ho, hb⟩
          rw [HM2.out] at ho
          refine ⟨_, rfl, Hrgk.out 4 Lq w2 (Hrgb.out Lq wq w2 hh.cls hb), ?_, Hrgxb.out wq w2 hb⟩
          rw [Hrge4.out]
          exact (ho.held (fun b h _ => h)).zone (fun b _ h => Nat.le_trans hc.size h)
        · intro Lq wq xq hh
          have d2 : Erg 2 (xq 2) wq := hh.val 2 (by kernel_rfl) (by kernel_rfl)
          rw [Hrge2.out] at d2
          simp only [hFrg, d2]
          clear d2
          refine .inl ⟨rfl, ?_⟩
          unfold Reg.upon
          have hk := Hrgk.out 5 Lq wq  hh.cls
          have hx := Hrgx.out wq
          have he : Erg 5 (.slice (some ⟨b0, off0, none⟩) n ca) wq := by rw [Hrge5.out]
          have HK := Lib.hid (And.intro hk (And.intro he hx))
          clear hk hx he
          go_simp
          exact HK.out
        · intro Lq wq xq hh
          have d2 : Erg 2 (xq 2) wq := hh.val 2 (by kernel_rfl) (by kernel_rfl)
          rw [Hrge2.out] at d2
          have d4 : Erg 4 (xq 4) wq := hh.val 4 (by kernel_rfl) (by kernel_rfl)
          rw [Hrge4.out] at d4
          have d5 : Erg 5 (xq 5) wq := hh.val 5 (by kernel_rfl) (by kernel_rfl)
          rw [Hrge5.out] at d5
          simp only [hFrg, d2, d5]
          clear d2 d5
          refine .inl ⟨rfl, ?_⟩
          unfold Reg.upon
          have hc : Crg Lq wq := hh.cls
          rw [HrghC.out] at hc
          go_simp
          refine (HSM.out wq _ _ d4 (B.out.trans (hc.mono B.out.size))).mono ?_
          rintro e w2 ⟨rfl, hb⟩
          exact ⟨_, rfl, Hrgk.out 6 Lq w2  (Hrgb.out Lq wq w2 hh.cls hb), (by rw [Hrge6.out]; try rfl), Hrgxb.out wq w2 hb⟩
        · intro Lq wq xq hh
          have d2 : Erg 2 (xq 2) wq := hh.val 2 (by kernel_rfl) (by kernel_rfl)
          rw [Hrge2.out] at d2
          have d6 : Erg 6 (xq 6) wq := hh.val 6 (by kernel_rfl) (by kernel_rfl)
          rw [Hrge6.out] at d6
          simp only [hFrg, d2, d6]
          clear d2 d6
          refine .inl ⟨rfl, ?_⟩
          unfold Reg.upon
          have hk := Hrgk.out 7 Lq wq  hh.cls
          have hx := Hrgx.out wq
          have he : Erg 7 (.bool true) wq := by rw [Hrge7.out]
          have HK := Lib.hid (And.intro hk (And.intro he hx))
          clear hk hx he
          go_simp
          exact HK.out
        · intro Lq wq xq hh
          have d7 : Erg 7 (xq 7) wq := hh.val 7 (by kernel_rfl) (by kernel_rfl)
          rw [Hrge7.out] at d7
          simp only [hFrg, d7]
          clear d7
          refine .inl ⟨rfl, ?_⟩
          unfold Reg.upon
          have hk := Hrgk.out 8 Lq wq  hh.cls
          have hx := Hrgx.out wq
          have he : Erg 8 (.bool true) wq := by rw [Hrge8.out]
          have HK := Lib.hid (And.intro hk (And.intro he hx))
          clear hk hx he
          go_simp
          exact HK.out
        · intro Lq wq xq hh
          have d8 : Erg 8 (xq 8) wq := hh.val 8 (by kernel_rfl) (by kernel_rfl)
          rw [Hrge8.out] at d8
          simp only [hFrg, d8]
          clear d8
          refine .inl ⟨rfl, ?_⟩
          unfold Reg.upon
          have hk := Hrgk.out 9 Lq wq  hh.cls
          have hx := Hrgx.out wq
          have he : Erg 9 (.pointer (some ⟨gg2, 0, none⟩)) wq := by rw [Hrge9.out]
          have HK := Lib.hid (And.intro hk (And.intro he hx))
          clear hk hx he
          go_simp
          exact HK.out
        · intro Lq wq xq hh
          have d8 : Erg 8 (xq 8) wq := hh.val 8 (by kernel_rfl) (by kernel_rfl)
          rw [Hrge8.out] at d8
          have d9 : Erg 9 (xq 9) wq := hh.val 9 (by kernel_rfl) (by kernel_rfl)
          rw [Hrge9.out] at d9
          simp only [hFrg, d8, d9]
          clear d8 d9
          refine .inl ⟨rfl, ?_⟩
          unfold Reg.upon
          have hc : Crg Lq wq := hh.cls
          rw [HrghC.out] at hc
          go_simp
          refine (gwide_any _ gg2 gr2 n0 R2 wq (G7.out.below hc)).mono ?_
          rintro e w2 ⟨rfl, rfl⟩
          exact ⟨_, rfl, Hrgk.out 10 Lq wq  hh.cls, (by rw [Hrge10.out]; try rfl), Hrgx.out _⟩
        · intro Lq wq xq hh
          have d8 : Erg 8 (xq 8) wq := hh.val 8 (by kernel_rfl) (by kernel_rfl)
          rw [Hrge8.out] at d8
          simp only [hFrg, d8]
          clear d8
          refine .inl ⟨rfl, ?_⟩
          unfold Reg.upon
          have hk := Hrgk.out 11 Lq wq  hh.cls
          have hx := Hrgx.out wq
          have he : Erg 11 (.slice (some ⟨b0, off0, none⟩) n ca) wq := by rw [Hrge11.out]
          have HK := Lib.hid (And.intro hk (And.intro he hx))
          clear hk hx he
          go_simp
          exact HK.out
        · intro Lq wq xq hh
          have d8 : Erg 8 (xq 8) wq := hh.val 8 (by kernel_rfl) (by kernel_rfl)
          rw [Hrge8.out] at d8
          have d11 : Erg 11 (xq 11) wq := hh.val 11 (by kernel_rfl) (by kernel_rfl)
          rw [Hrge11.out] at d11
          simp only [hFrg, d8, d11]
          clear d8 d11
          refine .inl ⟨rfl, ?_⟩
          unfold Reg.upon
          have hk := Hrgk.out 12 Lq wq  hh.cls
          have hx := Hrgx.out wq
          have he : Erg 12 (.pointer (some ⟨b0, off0, none⟩)) wq := by rw [Hrge12.out]
          have HK := Lib.hid (And.intro hk (And.intro he hx))
          clear hk hx he
          go_simp
          exact HK.out
        · intro Lq wq xq hh
          have d8 : Erg 8 (xq 8) wq := hh.val 8 (by kernel_rfl) (by kernel_rfl)
          rw [Hrge8.out] at d8
          have d12 : Erg 12 (xq 12) wq := hh.val 12 (by kernel_rfl) (by kernel_rfl)
          rw [Hrge12.out] at d12
          simp only [hFrg, d8, d12]
          clear d8 d12
          refine .inl ⟨rfl, ?_⟩
          unfold Reg.upon
          have hk := Hrgk.out 13 Lq wq  hh.cls
          have hx := Hrgx.out wq
          have he : Erg 13 (.pointer (some ⟨b0, off0, none⟩)) wq := by rw [Hrge13.out]
          have HK := Lib.hid (And.intro hk (And.intro he hx))
          clear hk hx he
          go_simp
          exact HK.out
        · intro Lq wq xq hh
          have d8 : Erg 8 (xq 8) wq := hh.val 8 (by kernel_rfl) (by kernel_rfl)
          rw [Hrge8.out] at d8
          have d13 : Erg 13 (xq 13) wq := hh.val 13 (by kernel_rfl) (by kernel_rfl)
          rw [Hrge13.out] at d13
          simp only [hFrg, d8, d13]
          clear d8 d13
          refine .inl ⟨rfl, ?_⟩
          unfold Reg.upon
          have hc : Crg Lq wq := hh.cls
          rw [HrghC.out] at hc
          have q14 := HF.out wq (B.out.trans (hc.mono B.out.size))
          clear hc
          have hk := Hrgk.out 14 Lq wq  hh.cls
          have hx := Hrgx.out wq
          have he : Erg 14 (.slice a0 n0 x0) wq := by rw [Hrge14.out]
          have HK := Lib.hid (And.intro hk (And.intro he hx))
          clear hk hx he
          go_simp
          exact HK.out
        · intro Lq wq xq hh
          have d8 : Erg 8 (xq 8) wq := hh.val 8 (by kernel_rfl) (by kernel_rfl)
          rw [Hrge8.out] at d8
          have d14 : Erg 14 (xq 14) wq := hh.val 14 (by kernel_rfl) (by kernel_rfl)
          rw [Hrge14.out] at d14
          simp only [hFrg, d8, d14]
          clear d8 d14
          refine .inl ⟨rfl, ?_⟩
          unfold Reg.upon
          have hk := Hrgk.out 15 Lq wq  hh.cls
          have hx := Hrgx.out wq
          have he : Erg 15 (.int .i64 n0) wq := by rw [Hrge15.out]
          have HK := Lib.hid (And.intro hk (And.intro he hx))
          clear hk hx he
          go_simp
          exact HK.out
        · intro Lq wq xq hh
          have d8 : Erg 8 (xq 8) wq := hh.val 8 (by kernel_rfl) (by kernel_rfl)
          rw [Hrge8.out] at d8
          have d10 : Erg 10 (xq 10) wq := hh.val 10 (by kernel_rfl) (by kernel_rfl)
          rw [Hrge10.out] at d10
          have d15 : Erg 15 (xq 15) wq := hh.val 15 (by kernel_rfl) (by kernel_rfl)
          rw [Hrge15.out] at d15
          simp only [hFrg, d8, d10, d15]
          clear d8 d10 d15
          refine .inl ⟨rfl, ?_⟩
          unfold Reg.upon
          have hk := Hrgk.out 16 Lq wq  hh.cls
          have hx := Hrgx.out wq
          have he : Erg 16 (.bool true) wq := by rw [Hrge16.out]
          have HK := Lib.hid (And.intro hk (And.intro he hx))
          clear hk hx he
          go_simp
          exact HK.out
        · intro Lq wq xq hh
          have d8 : Erg 8 (xq 8) wq := hh.val 8 (by kernel_rfl) (by kernel_rfl)
          rw [Hrge8.out] at d8
          have d16 : Erg 16 (xq 16) wq := hh.val 16 (by kernel_rfl) (by kernel_rfl)
          rw [Hrge16.out] at d16
          simp only [hFrg, d8, d16]
          clear d8 d16
          refine .inl ⟨rfl, ?_⟩
          unfold Reg.upon
          have hk := Hrgk.out 17 Lq wq  hh.cls
          have hx := Hrgx.out wq
          have he : Erg 17 (.bool true) wq := by rw [Hrge17.out]
          have HK := Lib.hid (And.intro hk (And.intro he hx))
          clear hk hx he
          go_simp
          exact HK.out
        · intro Lq wq xq hh
          have d17 : Erg 17 (xq 17) wq := hh.val 17 (by kernel_rfl) (by kernel_rfl)
          rw [Hrge17.out] at d17
          simp only [hFrg, d17]
          clear d17
          refine .inl ⟨rfl, ?_⟩
          unfold Reg.upon
          have hk := Hrgk.out 18 Lq wq  hh.cls
          have hx := Hrgx.out wq
          have he : Erg 18 (.bool true) wq := by rw [Hrge18.out]
          have HK := Lib.hid (And.intro hk (And.intro he hx))
          clear hk hx he
          go_simp
          exact HK.out
        · intro Lq wq xq hh
          have d18 : Erg 18 (xq 18) wq := hh.val 18 (by kernel_rfl) (by kernel_rfl)
          rw [Hrge18.out] at d18
          simp only [hFrg, d18]
          clear d18
          refine .inl ⟨rfl, ?_⟩
          unfold Reg.upon
          have hk := Hrgk.out 19 Lq wq  hh.cls
          have hx := Hrgx.out wq
          have he : Erg 19 (.pointer (some ⟨gg2, 0, none⟩)) wq := by rw [Hrge19.out]
          have HK := Lib.hid (And.intro hk (And.intro he hx))
          clear hk hx he
          go_simp
          exact HK.out
        · intro Lq wq xq hh
          have d18 : Erg 18 (xq 18) wq := hh.val 18 (by kernel_rfl) (by kernel_rfl)
          rw [Hrge18.out] at d18
          have d19 : Erg 19 (xq 19) wq := hh.val 19 (by kernel_rfl) (by kernel_rfl)
          rw [Hrge19.out] at d19
          simp only [hFrg, d18, d19]
          clear d18 d19
          refine .inl ⟨rfl, ?_⟩
          unfold Reg.upon
          have hc : Crg Lq wq := hh.cls
          rw [HrghC.out] at hc
          go_simp
          refine (HHG.out wq hc).mono ?_
          rintro e w2 ⟨rfl, rfl⟩
          exact ⟨_, rfl, Hrgk.out 20 Lq wq  hh.cls, (by rw [Hrge20.out]; try rfl), Hrgx.out _⟩
        · intro Lq wq xq hh
          have d18 : Erg 18 (xq 18) wq := hh.val 18 (by kernel_rfl) (by kernel_rfl)
          rw [Hrge18.out] at d18
          simp only [hFrg, d18]
          clear d18
          refine .inl ⟨rfl, ?_⟩
          unfold Reg.upon
          have hk := Hrgk.out 21 Lq wq  hh.cls
          have hx := Hrgx.out wq
          have he : Erg 21 (.slice (some ⟨b0, off0, none⟩) n ca) wq := by rw [Hrge21.out]
          have HK := Lib.hid (And.intro hk (And.intro he hx))
          clear hk hx he
          go_simp
          exact HK.out
        · intro Lq wq xq hh
          have d18 : Erg 18 (xq 18) wq := hh.val 18 (by kernel_rfl) (by kernel_rfl)
          rw [Hrge18.out] at d18
          have d21 : Erg 21 (xq 21) wq := hh.val 21 (by kernel_rfl) (by kernel_rfl)
          rw [Hrge21.out] at d21
          simp only [hFrg, d18, d21]
          clear d18 d21
          refine .inl ⟨rfl, ?_⟩
          unfold Reg.upon
          have hk := Hrgk.out 22 Lq wq  hh.cls
          have hx := Hrgx.out wq
          have he : Erg 22 (.int .i64 n) wq := by rw [Hrge22.out]
          have HK := Lib.hid (And.intro hk (And.intro he hx))
          clear hk hx he
          go_simp
          exact HK.out
        · intro Lq wq xq hh
          have d18 : Erg 18 (xq 18) wq := hh.val 18 (by kernel_rfl) (by kernel_rfl)
          rw [Hrge18.out] at d18
          have d20 : Erg 20 (xq 20) wq := hh.val 20 (by kernel_rfl) (by kernel_rfl)
          rw [Hrge20.out] at d20
          have d22 : Erg 22 (xq 22) wq := hh.val 22 (by kernel_rfl) (by kernel_rfl)
          rw [Hrge22.out] at d22
          simp only [hFrg, d18, d20, d22]
          clear d18 d20 d22
          refine .inl ⟨rfl, ?_⟩
          unfold Reg.upon
          have hk := Hrgk.out 23 Lq wq  hh.cls
          have hx := Hrgx.out wq
          have he : Erg 23 (.bool true) wq := by rw [Hrge23.out]
          have HK := Lib.hid (And.intro hk (And.intro he hx))
          clear hk hx he
          go_simp
          exact HK.out
        · intro Lq wq xq hh
          have d18 : Erg 18 (xq 18) wq := hh.val 18 (by kernel_rfl) (by kernel_rfl)
          rw [Hrge18.out] at d18
          have d23 : Erg 23 (xq 23) wq := hh.val 23 (by kernel_rfl) (by kernel_rfl)
          rw [Hrge23.out] at d23
          simp only [hFrg, d18, d23]
          clear d18 d23
          refine .inl ⟨rfl, ?_⟩
          unfold Reg.upon
          have hk := Hrgk.out 24 Lq wq  hh.cls
          have hx := Hrgx.out wq
          have he : Erg 24 (.bool true) wq := by rw [Hrge24.out]
          have HK := Lib.hid (And.intro hk (And.intro he hx))
          clear hk hx he
          go_simp
          exact HK.out
        · intro Lq wq xq hh
          have d24 : Erg 24 (xq 24) wq := hh.val 24 (by kernel_rfl) (by kernel_rfl)
          rw [Hrge24.out] at d24
          simp only [hFrg, d24]
          clear d24
          refine .inl ⟨rfl, ?_⟩
          unfold Reg.upon
          have hk := Hrgk.out 25 Lq wq  hh.cls
          have hx := Hrgx.out wq
          have he : Erg 25 (.bool true) wq := by rw [Hrge25.out]
          have HK := Lib.hid (And.intro hk (And.intro he hx))
          clear hk hx he
          go_simp
          exact HK.out
      intro xq wrg hcrg hvrg
      rw [HrghC.out] at hcrg
      simp only [hFrg]
      have vrg25 : Erg 25 (xq 25) wrg := hvrg 25 (by decide)
      rw [Hrge25.out] at vrg25
      rw [vrg25]
      clear hvrg hFrg Hrgk Hrgx Hrgst Hrgc HrghC HrghX Hrgb Hrgxb Hrge0 Hrge1 Hrge2 Hrge3 Hrge4 Hrge5 Hrge6 Hrge7 Hrge8 Hrge9 Hrge10 Hrge11 Hrge12 Hrge13 Hrge14 Hrge15 Hrge16 Hrge17 Hrge18 Hrge19 Hrge20 Hrge21 Hrge22 Hrge23 Hrge24 Hrge25
      have HBF := Lib.hid (B.out.trans (hcrg.mono B.out.size))
      clear hcrg
      go_wp2
      go_ret
      exact ⟨(ret_eq (by first | rfl | (simp <;> omega))), HBF.out⟩
    · obtain ⟨u9, rfl, he9⟩ := HX2.out i c hfb
      have HE := Lib.hid he9
      have HFB := Lib.hid hfb
      clear he9 hfb HX1 HX2
      have hii : ((i : Int) == (i : Int)) = true := by simp
      have hcc : ((c : Int) == (c : Int)) = true := by simp
      go_wp2_with fail
      refine ha.mono ?_
      rintro e w7 ⟨_, hq, b7⟩
      obtain rfl := hq i c HFB.out
      replace HE := Lib.hid (HE.out.keep b7)
      replace B := Lib.hid (B.out.trans (b7.mono B.out.size))
      clear b7
      clear ha hq hz
      have hb := F.code_any sa w7 (HSA.out.below B.out) u9 _ c (.inr HE.out)
      go_wp2_with fail
      refine hb.mono ?_
      rintro e w8 ⟨rfl, rfl⟩
      have hd := F.at_any sa w7 (HHD.out.keep B.out) u9 _ c (.inr HE.out)
      clear hb
      go_wp2_with fail
      refine hd.mono ?_
      rintro e w8 ⟨rfl, b8⟩
      replace B := Lib.hid (B.out.trans (b8.mono B.out.size))
      clear b8
      go_wp2
      go_ret
      exact ⟨(ret_eq (by first | rfl | (simp <;> omega))), B.out⟩
set_option maxRecDepth 100000 in
theorem walk {H : Type} {enc : TypeId × Value → H} (W : World) (a : Int) (_ : (Lit.int .i64 a).wf = true) (b : Int) (_ : (Lit.int .i64 b).wf = true) (u : Value) {base : Nat} {d : DataW H} {p : List MemPlace} (hv : Value.okWide Tryd.prog W .any base 60 u) (h : DataW.Trod enc Tryd.prog W 0 (fun _ => true) true 60 u d p) (hL : laidMetH Tryd.prog Rows.gridMakesRow.laid W) : Calls Tryd.prog 9 #[.int .i64 a, .int .i64 b, u] W (Yes W) := by
  obtain ⟨L, hL2⟩ := lines_arg hv h
  obtain ⟨hhd, sa, hsa⟩ := F.errs_of_laid hL
  exact walkH W a b u L _ hL2 sa hsa hhd

theorem door_met (os : Os) : laidMetH Tryd.prog Rows.gridMakesRow.laid ((World.doorLaid Tryd.prog 400 os).forCall (fun _ _ => 0) ⟨#[], #[.int .i64 0, .int .i64 0, .slice none 0 0], []⟩).memory :=
  laidMetH_of_parts3 (fuel := 8) (laidMet_of_run' 8 (by kernel_rfl) (by kernel_rfl)) (by kernel_rfl) (by kernel_rfl)

set_option maxRecDepth 100000 in
theorem lifted (os : Os) (started : os.Started) (H : Type) (enc : TypeId × Value → H) :
    ReturnsInHanded {} Tryd.checked os 9 .any (fun w args => (Rows.gridMakesSpec.pre enc Tryd.prog Tryd.f9 [] false w args ∧ laidMetH Tryd.prog Rows.gridMakesRow.laid w) ∧ sizedMet enc Tryd.prog Tryd.f9 (OpenSpec.ofChange Rows.gridMakesSpec) false w args)
      (Rows.gridMakesSpec.post enc Tryd.prog Tryd.f9 false true false false) := by
  refine law_frame (C := Tryd.checked) (tb := 4) (by kernel_rfl) started (by kernel_rfl) Tryd.func9 (by kernel_rfl) (by kernel_rfl) Tryd.underlying4 rfl
    (by rw [Tryd.params9]; intro t ht; simp at ht; rcases ht with rfl | rfl <;> exact ⟨by kernel_rfl, of_decide_eq_true (by kernel_rfl)⟩)
    (by rw [Tryd.params9]; intro ds hd; match ds, hd with | [_, _, _], _ => rfl)
    (ChangeSpec.witness_shaped (enc := enc) (C := Tryd.checked) (os := os) (X := fun w _ => laidMetH Tryd.prog Rows.gridMakesRow.laid w) false (World.doorLaid Tryd.prog 400 os) #[.int .i64 0, .int .i64 0, .slice none 0 0] 8 rfl (World.shaped_of_RefB (by kernel_rfl) (by kernel_rfl)) (by kernel_rfl) (by kernel_rfl) (by kernel_rfl) (door_met os)) ?_
  intro W base args ds before hval hA hsz hL
  rw [Tryd.params9] at hA hval
  obtain ⟨v0, vs0, d0, ds0, p0, q0, hargs, rfl, rfl, h0, r0⟩ := trodAll_cons hA
  obtain ⟨v1, vs1, d1, ds1, p1, q1, rfl, rfl, rfl, h1, r1⟩ := trodAll_cons r0
  obtain ⟨v2, vs2, d2, ds2, p2, q2, rfl, rfl, rfl, h2, r2⟩ := trodAll_cons r1
  obtain ⟨rfl, rfl, rfl⟩ := trodAll_nil r2
  obtain rfl : args = #[v0, v1, v2] := by cases args; simp_all
  obtain ⟨x0, rfl, rfl, rfl, wx0⟩ := open_int Tryd.underlying3 (hval 0 3 v0 rfl rfl) h0
  obtain ⟨x1, rfl, rfl, rfl, wx1⟩ := open_int Tryd.underlying3 (hval 1 3 v1 rfl rfl) h1
  exact walk W x0 wx0 x1 wx1 v2 (hval 2 60 v2 rfl rfl) h2 hL

theorem said : Rows.GridMakesSaid :=
  OpenClaim.holds_of_wide 9 Tryd.f9 rfl rfl rfl rfl rfl rfl rfl ⟨rfl, rfl, rfl, rfl, rfl⟩ rfl rfl rfl rfl rfl (by kernel_rfl) Tryd.func9 (by kernel_rfl)
    (of_decide_eq_true (by kernel_rfl)) (by unfold Func.isWrapper; first | (rw [if_pos (by decide +kernel)]; kernel_rfl) | (rw [if_neg (by decide +kernel)]; exact ⟨rfl, rfl⟩))
    (fun os started H enc _ => lifted os started H enc)

theorem plain (f : FuncId) (fn : Func) (hf : Tryd.pinned.checked.prog.funcNamed "linotype/linotypelaw32.GridMakes" = some f) (hfn : Tryd.pinned.checked.prog.funcs[f]? = some fn) :
    true = Tryd.pinned.checked.prog.looks [] ∧ ∀ (j : Nat) t, fn.params[j]? = some t → Tryd.pinned.checked.prog.wantsStandIn t = false := by
  obtain rfl : f = 9 := Option.some.inj ((show Tryd.prog.funcNamed "linotype/linotypelaw32.GridMakes" = some 9 by kernel_rfl).symm.trans hf) |>.symm
  obtain rfl : fn = Tryd.f9 := (Option.some.inj (Tryd.func9.symm.trans hfn)).symm
  refine ⟨by kernel_rfl, fun j t ht => ?_⟩
  rw [Tryd.params9] at ht
  have hm : t ∈ [3, 3, 60] := by simpa using Array.mem_of_getElem? ht
  have hall : ([3, 3, 60].all fun u => !Tryd.prog.wantsStandIn u) = true := by kernel_rfl
  exact (show Tryd.prog.wantsStandIn t = false by simpa using List.all_eq_true.1 hall t hm)

/-- THE CARD. -/
theorem card : Rows.GridMakesCardSaid :=
  Claim7.holds_tied_plain_at .later [] _ _ _ _ said (fun _ h => by cases h) (by kernel_rfl) (fun _ h => by cases h) gridMakes_row_tie rfl ⟨rfl, rfl⟩ (by kernel_rfl) rfl plain (by kernel_rfl)
#print axioms card

end Go.Proofs.YtmclmhdlnlcafaaDoor.lawGridMakes
