/- ScrollFar (33.4) answers true at all lines and every call, and turns nothing. No condition. -/
import Derived.Test.YteolfknlcnihaaaDoorScrX
import Derived.Test.YteolfknlcnihaaaDoorMg5
import Derived.Test.YteolfknlcnihaaaDoorMg1
import Derived.Test.YteolfknlcnihaaaDoorCards
import Derived.Test.YteolfknlcnihaaaDoorTie
import Derived.ProofKit
import Derived.Lib.MinMax
namespace Go.Proofs.YteolfknlcnihaaaDoor.lawScrollFar
open Go.ChangeShapes Go.WideShapes Go.ChangeAt Go.RowKit
abbrev Act4 := Bool × Int × Int × Int
def act4E : Elem Act4 := prE boolE (prE (intE .i64) (prE (intE .i64) (intE .i64)))
theorem moveL_at (Ls : List Ln) (f t q : Nat) (up : Bool) (i : Nat) (hi : i < Ls.length) : (moveL Ls f t q up).getD i zl = entM Ls f t q up i := by
  unfold moveL
  simp [List.getD, List.getElem?_map, List.getElem?_range hi]
theorem mvd_out (Ls : List Ln) (a b k : Int) (up : Bool) (i : Nat) (hi : i < Ls.length) (h : ¬ (heldF Ls.length a ≤ i ∧ i < heldF Ls.length b)) : ((mvd Ls a b k up).getD i zl).1 = (Ls.getD i zl).1 := by
  unfold mvd
  split
  · rfl
  · rw [moveL_at _ _ _ _ _ _ hi]
    unfold entM srcM
    rw [if_neg h]
theorem mvd_in (Ls : List Ln) (a b k : Int) (up : Bool) (i : Nat) (hi : i < Ls.length) (h : heldF Ls.length a ≤ i ∧ i < heldF Ls.length b) (hk : (heldF Ls.length b : Int) - heldF Ls.length a ≤ k) : (mvd Ls a b k up).getD i zl = (List.replicate (Ls.getD i zl).1.length zc, false) := by
  have e : heldK Ls.length a b k = (heldF Ls.length b : Int) - heldF Ls.length a := by unfold heldK; omega
  unfold mvd
  rw [if_neg (by rw [e]; omega), moveL_at _ _ _ _ _ _ hi, e]
  have e2 : ((heldF Ls.length b : Int) - heldF Ls.length a).toNat = heldF Ls.length b - heldF Ls.length a := by omega
  rw [e2]
  unfold entM srcM
  rw [if_pos h]
  cases up with
  | true => rw [if_pos rfl, if_neg (by omega)]; split <;> rfl
  | false => rw [if_neg (by decide), if_neg (by omega)]; split <;> rfl
set_option maxRecDepth 100000 in
set_option maxHeartbeats 16000000 in
theorem mainW (W : World) (ao : Option Addr) (n ca : Nat) (Ls : List Ln) (D : Bool) (P Q R : Int) (hn : n = Ls.length) (ha : HeldE lineE (fun b => b < W.heap.size) W (.slice ao n ca) Ls) (h1 : n ≤ 40) (h0 : 0 < n) (hall : AllGood Ls) : Calls Tryd.prog 5 #[.slice ao n ca, .agg #[.bool D, .int .i64 P, .int .i64 Q, .int .i64 R]] W (Yes W) := by
  have HN := Lib.hid hn
  have HA := Lib.hid ha
  have HALL := Lib.hid hall
  have hb1 := (Below.refl W.heap.size W).alloc (Nat.le_refl _) (.cells #[.bool D, .int .i64 P, .int .i64 Q, .int .i64 R] 45)
  have hWR := rlwrong_any _ _ Ls _ (ha.below hb1)
  have hHas := Has.new W [.bool D, .int .i64 P, .int .i64 Q, .int .i64 R] 45
  obtain ⟨W1, hW1⟩ : ∃ W1, W1 = W.alloc (.cells #[.bool D, .int .i64 P, .int .i64 Q, .int .i64 R] 45) := ⟨_, rfl⟩
  have hHas : Has W1 W.heap.size [.bool D, .int .i64 P, .int .i64 Q, .int .i64 R] 45 := by rw [hW1]; exact hHas
  have HS1 := Lib.hid (show W1.heap.size = W.heap.size + 1 by rw [hW1]; simp)
  rw [← hW1] at hb1 hWR
  have HB1 := Lib.hid hb1
  have HWR := Lib.hid hWR
  have HH := Lib.hid hHas
  clear ha hn hall hb1 hWR hHas
  have hd40 : decide ((40 : Int) < n) = false := by rw [decide_eq_false_iff_not]; omega
  have hd40n : decide (40 < n) = false := by rw [decide_eq_false_iff_not]; omega
  have hz : ((n : Int) == 0) = false := by rw [beq_eq_false_iff_ne]; omega
  go_enter Tryd.func5, Tryd.ntmps5
  go_upto_region 1 with (fail)
  rw [← hW1]
  clear hW1
  go_wp2_with fail
  refine HWR.out.mono ?_
  rintro e w0 hq
  obtain ⟨at_, cc, rfl, hat, b0⟩ := hq.say
  obtain rfl : at_ = -1 := by rcases hat with h | h; exact h.2; exact absurd HALL.out h.2
  clear hq hat
  replace HH := Lib.hid (HH.out.below b0 HH.out.lt)
  have B := Lib.hid (HB1.out.trans (b0.mono HB1.out.size))
  go_wp2_with fail
  refine (works33_any _).mono ?_
  rintro e w2 ⟨rfl, b2⟩
  replace HH := Lib.hid (HH.out.below b2 HH.out.lt)
  replace B := Lib.hid (B.out.trans (b2.mono B.out.size))
  clear b0 b2
  have hg := gof_good _ _ Ls w2 HALL.out (HA.out.below B.out) (by rw [← HN.out]; omega) (by rw [← HN.out]; omega)
  go_wp2_with fail
  refine hg.mono ?_
  clear hd40 hd40n hz
  rintro e w3 ⟨gg, gr, Rs, rfl, hg3, hm3, b3⟩
  have G := Lib.hid hg3
  have ML := Lib.hid hm3
  have BS := Lib.hid (show W.heap.size < w2.heap.size from HH.out.lt)
  have OF := Lib.hid (show OffG (fun b => b ≤ W.heap.size) gg gr Rs from fun b hb => by have := hg3.lt; have := BS.out; exact ⟨by omega, by omega, fun i hi => by have := hg3.lt.2.2.2.2.2 i hi; omega⟩)
  replace HH := Lib.hid (HH.out.below b3 HH.out.lt)
  replace B := Lib.hid (B.out.trans (b3.mono B.out.size))
  clear b3
  have HA3 := Lib.hid (HA.out.below B.out)
  obtain ⟨n0, hn0⟩ : ∃ n0, n0 = firstN Ls := ⟨_, rfl⟩
  rw [← hn0] at G
  have ZS := Lib.hid (show ∀ b, b ≤ W.heap.size → b < w3.heap.size from fun b h => Nat.lt_of_le_of_lt h HH.out.lt)
  clear hg hg3 hm3 hn0 HA HALL HWR
  obtain ⟨Lm, hLm⟩ : ∃ Lm, Lm = mvd Ls P Q R (!D) := ⟨_, rfl⟩
  have hdo := scdo_all _ gg gr n0 Rs Ls D P Q R w3 G.out ML.out
  rw [← hLm] at hdo
  have HLM := Lib.hid (show Lm.length = n from by rw [hLm, mvd_len]; exact HN.out.symm)
  have HOUT := Lib.hid (show ∀ i, i < n → ¬ (heldF n P ≤ i ∧ i < heldF n Q) → (Lm.getD i zl).1 = (Ls.getD i zl).1 from fun i hi h => by rw [hLm]; rw [HN.out] at hi h; exact mvd_out Ls P Q R _ i hi h)
  have HIN := Lib.hid (show ∀ i, i < n → (heldF n P ≤ i ∧ i < heldF n Q) → (heldF n Q : Int) - heldF n P ≤ R → Lm.getD i zl = (List.replicate (Ls.getD i zl).1.length zc, false) from fun i hi h hk => by rw [hLm]; rw [HN.out] at hi h hk; exact mvd_in Ls P Q R _ i hi h hk)
  have HLW := Lib.hid (show ∀ i, i < n → (Ls.getD i zl).1.length ≤ 1024 from fun i hi => by
    have hs := G.out.sizes
    have hl := map_len ML.out
    have hn := HN.out
    rw [← lines_at_i ML.out i (by omega)]
    have := hs.2.2.2.2 i (by omega)
    show (Rs.getD i r0).L.length ≤ 1024
    omega)
  obtain ⟨f, hf⟩ : ∃ f, f = heldF n P := ⟨_, rfl⟩
  obtain ⟨t, ht⟩ : ∃ t, t = heldF n Q := ⟨_, rfl⟩
  have HF := Lib.hid (show max 0 (min P (n : Int)) = (f : Int) by rw [hf]; unfold heldF; omega)
  have HT := Lib.hid (show max 0 (min Q (n : Int)) = (t : Int) by rw [ht]; unfold heldF; omega)
  have hfn : f ≤ n := by rw [hf]; exact heldF_le _ _
  have htn : t ≤ n := by rw [ht]; exact heldF_le _ _
  rw [← hf, ← ht] at HOUT HIN
  clear hLm hf ht
  have a0 := HH.out.cell 0 _ rfl
  have a1 := HH.out.cell 1 _ rfl
  have a2 := HH.out.cell 2 _ rfl
  have a3 := HH.out.cell 3 _ rfl
  go_wp2_with fail
  refine hdo.mono ?_
  clear a0 a1 a2 a3 hdo
  rintro e w7 ⟨rfl, R7, hg7, hm7, hu7, hf7⟩
  have hnot := fun b hb => OF.out.not (w := w3) ZS.out b hb
  have HA7 := Lib.hid (HA3.out.upd hu7 (fun b hb => hnot b (Nat.le_of_lt hb)))
  replace HH := Lib.hid (hu7.keep.has HH.out (hnot _ (Nat.le_refl _)))
  replace B := Lib.hid (B.out.upd hu7 B.out.size (fun b hb => by
    rcases Nat.lt_or_ge b W.heap.size with h | h
    · exact absurd hb (hnot b (Nat.le_of_lt h))
    · exact h))
  have G7 := Lib.hid hg7
  have ML7 := Lib.hid hm7
  clear hg7 hm7 hu7 hf7 hnot G ML HA3 OF ZS
  have hgl := glines_any _ gg gr n0 R7 w7 G7.out
  rw [ML7.out] at hgl
  go_wp2_with fail
  refine hgl.mono ?_
  rintro e w9 ⟨v9, rfl, ho9, b9⟩
  have h9 := ho9.held (Z := fun b => w7.heap.size ≤ b) (fun b hb _ => hb)
  obtain ⟨mo, mc, rfl⟩ := h9.len
  have H9 := Lib.hid h9
  rw [HLM.out] at H9 ⊢
  replace HA7 := Lib.hid (HA7.out.below b9)
  replace HH := Lib.hid (HH.out.below b9 HH.out.lt)
  replace B := Lib.hid (B.out.trans (b9.mono B.out.size))
  clear b9 ho9 hgl h9
  obtain ⟨gb, hgb⟩ : ∃ gb, gb = W.heap.size := ⟨_, rfl⟩
  rw [← hgb] at HH ⊢
  clear hgb
  have a1 := HH.out.cell 1 _ rfl
  have a2 := HH.out.cell 2 _ rfl
  go_upto_region 9 with (fail)
  obtain ⟨Erg, hErg⟩ : ∃ EE : Nat → Value → World → Prop, EE = fun jj xx ww => match jj with
      | 0 => xx = .pointer (some ⟨gb, 1, none⟩)
      | 1 => xx = .int .i64 P
      | 2 => xx = .slice ao n ca
      | 3 => xx = .int .i64 n
      | 4 => xx = .int .i64 (min P (n : Int))
      | 5 => xx = .int .i64 (f : Int)
      | 6 => xx = .pointer (some ⟨gb, 2, none⟩)
      | 7 => xx = .int .i64 Q
      | 8 => xx = .slice ao n ca
      | 9 => xx = .int .i64 n
      | 10 => xx = .int .i64 (min Q (n : Int))
      | 11 => xx = .int .i64 (t : Int)
      | 12 => xx = .int .i64 (f : Int)
      | 13 => xx = .int .i64 (t : Int)
      | _ => True := ⟨_, rfl⟩
  have erg0 : ∀ xx ww, Erg 0 xx ww = (xx = .pointer (some ⟨gb, 1, none⟩)) := fun xx ww => congrFun (congrFun (congrFun hErg 0) xx) ww
  have erg1 : ∀ xx ww, Erg 1 xx ww = (xx = .int .i64 P) := fun xx ww => congrFun (congrFun (congrFun hErg 1) xx) ww
  have erg2 : ∀ xx ww, Erg 2 xx ww = (xx = .slice ao n ca) := fun xx ww => congrFun (congrFun (congrFun hErg 2) xx) ww
  have erg3 : ∀ xx ww, Erg 3 xx ww = (xx = .int .i64 n) := fun xx ww => congrFun (congrFun (congrFun hErg 3) xx) ww
  have erg4 : ∀ xx ww, Erg 4 xx ww = (xx = .int .i64 (min P (n : Int))) := fun xx ww => congrFun (congrFun (congrFun hErg 4) xx) ww
  have erg5 : ∀ xx ww, Erg 5 xx ww = (xx = .int .i64 (f : Int)) := fun xx ww => congrFun (congrFun (congrFun hErg 5) xx) ww
  have erg6 : ∀ xx ww, Erg 6 xx ww = (xx = .pointer (some ⟨gb, 2, none⟩)) := fun xx ww => congrFun (congrFun (congrFun hErg 6) xx) ww
  have erg7 : ∀ xx ww, Erg 7 xx ww = (xx = .int .i64 Q) := fun xx ww => congrFun (congrFun (congrFun hErg 7) xx) ww
  have erg8 : ∀ xx ww, Erg 8 xx ww = (xx = .slice ao n ca) := fun xx ww => congrFun (congrFun (congrFun hErg 8) xx) ww
  have erg9 : ∀ xx ww, Erg 9 xx ww = (xx = .int .i64 n) := fun xx ww => congrFun (congrFun (congrFun hErg 9) xx) ww
  have erg10 : ∀ xx ww, Erg 10 xx ww = (xx = .int .i64 (min Q (n : Int))) := fun xx ww => congrFun (congrFun (congrFun hErg 10) xx) ww
  have erg11 : ∀ xx ww, Erg 11 xx ww = (xx = .int .i64 (t : Int)) := fun xx ww => congrFun (congrFun (congrFun hErg 11) xx) ww
  have erg12 : ∀ xx ww, Erg 12 xx ww = (xx = .int .i64 (f : Int)) := fun xx ww => congrFun (congrFun (congrFun hErg 12) xx) ww
  have erg13 : ∀ xx ww, Erg 13 xx ww = (xx = .int .i64 (t : Int)) := fun xx ww => congrFun (congrFun (congrFun hErg 13) xx) ww
  obtain ⟨Crg, hCrg⟩ : ∃ CC : Array Bool → World → Prop, CC = fun L8 w' => Below w9.heap.size w9 w' := ⟨_, rfl⟩
  have krg : ∀ i L w,  Crg L w → Crg (L.setIfInBounds i true) w := by
    intro i L w  h
    rw [hCrg] at h ⊢
    exact h
  obtain ⟨Xrg, hXrg⟩ : ∃ XX : World → World → Prop, XX = fun x y => Below x.heap.size x y := ⟨_, rfl⟩
  have xrg : ∀ w, Xrg w w := fun w => by rw [hXrg]; exact Below.refl _ _
  have strg : ∀ j x w w1, Xrg w w1 → Erg j x w → Erg j x w1 := by
    intro j x w w1 hx h
    rw [hXrg] at hx
    match j with
    | 0 => rw [erg0] at h ⊢; exact h
    | 1 => rw [erg1] at h ⊢; exact h
    | 2 => rw [erg2] at h ⊢; exact h
    | 3 => rw [erg3] at h ⊢; exact h
    | 4 => rw [erg4] at h ⊢; exact h
    | 5 => rw [erg5] at h ⊢; exact h
    | 6 => rw [erg6] at h ⊢; exact h
    | 7 => rw [erg7] at h ⊢; exact h
    | 8 => rw [erg8] at h ⊢; exact h
    | 9 => rw [erg9] at h ⊢; exact h
    | 10 => rw [erg10] at h ⊢; exact h
    | 11 => rw [erg11] at h ⊢; exact h
    | 12 => rw [erg12] at h ⊢; exact h
    | 13 => rw [erg13] at h ⊢; exact h
    | j + 14 => rw [hErg]; trivial
  have crg : Crg (Array.replicate 14 false) w9.drew := by rw [hCrg]; exact (Below.refl _ _).drew
  have brg : ∀ L w w1, Crg L w → Below w.heap.size w w1 → Crg L w1 := by
    intro L w w1 h hb
    rw [hCrg] at h ⊢
    exact h.trans (hb.mono h.size)
  have xbrg : ∀ w w1, Below w.heap.size w w1 → Xrg w w1 := by
    intro w w1 hb
    rw [hXrg]
    exact hb
  have Hrgb := Lib.hid brg
  have Hrgxb := Lib.hid xbrg
  clear brg xbrg
  clear hErg
  have Hrgk := Lib.hid krg
  have Hrgx := Lib.hid xrg
  have Hrgst := Lib.hid strg
  have Hrgc := Lib.hid crg
  have HrghC := Lib.hid hCrg
  have HrghX := Lib.hid hXrg
  have Hrge0 := Lib.hid erg0
  have Hrge1 := Lib.hid erg1
  have Hrge2 := Lib.hid erg2
  have Hrge3 := Lib.hid erg3
  have Hrge4 := Lib.hid erg4
  have Hrge5 := Lib.hid erg5
  have Hrge6 := Lib.hid erg6
  have Hrge7 := Lib.hid erg7
  have Hrge8 := Lib.hid erg8
  have Hrge9 := Lib.hid erg9
  have Hrge10 := Lib.hid erg10
  have Hrge11 := Lib.hid erg11
  have Hrge12 := Lib.hid erg12
  have Hrge13 := Lib.hid erg13
  clear krg xrg strg crg hCrg hXrg erg0 erg1 erg2 erg3 erg4 erg5 erg6 erg7 erg8 erg9 erg10 erg11 erg12 erg13
  go_wp2_with fail
  refine Reg.regionF Erg Crg Xrg Hrgst.out (by kernel_rfl) (by kernel_rfl) (by kernel_rfl) Hrgc.out (fun Frg hFrg => ?_)
  simp only [Reg.frame, Reg.dsts, List.map_cons, List.map_nil, Mix.put_lit, List.set_cons_succ, List.set_cons_zero, Nat.zero_add, Nat.reduceAdd] at hFrg
  refine ⟨?_, ?_⟩
  · refine ⟨?_, ?_, ?_, ?_, ?_, ?_, ?_, ?_, ?_, ?_, ?_, ?_, ?_, ?_, trivial⟩
    · intro Lq wq xq hh
      simp only [hFrg]
      refine .inl ⟨rfl, ?_⟩
      unfold Reg.upon
      have hk := Hrgk.out 0 Lq wq  hh.cls
      have hx := Hrgx.out wq
      have he : Erg 0 (.pointer (some ⟨gb, 1, none⟩)) wq := by rw [Hrge0.out]
      have HK := Lib.hid (And.intro hk (And.intro he hx))
      clear hk hx he
      go_simp
      exact HK.out
    · intro Lq wq xq hh
      have d0 : Erg 0 (xq 0) wq := hh.val 0 (by kernel_rfl) (by kernel_rfl)
      rw [Hrge0.out] at d0
      simp only [hFrg, d0]
      clear d0
      refine .inl ⟨rfl, ?_⟩
      unfold Reg.upon
      have hc : Crg Lq wq := hh.cls
      rw [HrghC.out] at hc
      have q1 := (hc.cell (p := ⟨gb, 1, none⟩) HH.out.lt).trans a1
      clear hc
      have hk := Hrgk.out 1 Lq wq  hh.cls
      have hx := Hrgx.out wq
      have he : Erg 1 (.int .i64 P) wq := by rw [Hrge1.out]
      have HK := Lib.hid (And.intro hk (And.intro he hx))
      clear hk hx he
      go_simp
      exact HK.out
    · intro Lq wq xq hh
      simp only [hFrg]
      refine .inl ⟨rfl, ?_⟩
      unfold Reg.upon
      have hk := Hrgk.out 2 Lq wq  hh.cls
      have hx := Hrgx.out wq
      have he : Erg 2 (.slice ao n ca) wq := by rw [Hrge2.out]
      have HK := Lib.hid (And.intro hk (And.intro he hx))
      clear hk hx he
      go_simp
      exact HK.out
    · intro Lq wq xq hh
      have d2 : Erg 2 (xq 2) wq := hh.val 2 (by kernel_rfl) (by kernel_rfl)
      rw [Hrge2.out] at d2
      simp only [hFrg, d2]
      clear d2
      refine .inl ⟨rfl, ?_⟩
      unfold Reg.upon
      have hk := Hrgk.out 3 Lq wq  hh.cls
      have hx := Hrgx.out wq
      have he : Erg 3 (.int .i64 n) wq := by rw [Hrge3.out]
      have HK := Lib.hid (And.intro hk (And.intro he hx))
      clear hk hx he
      go_simp
      exact HK.out
    · intro Lq wq xq hh
      have d1 : Erg 1 (xq 1) wq := hh.val 1 (by kernel_rfl) (by kernel_rfl)
      rw [Hrge1.out] at d1
      have d3 : Erg 3 (xq 3) wq := hh.val 3 (by kernel_rfl) (by kernel_rfl)
      rw [Hrge3.out] at d3
      simp only [hFrg, d1, d3]
      clear d1 d3
      refine .inl ⟨rfl, ?_⟩
      unfold Reg.upon
      have hk := Hrgk.out 4 Lq wq  hh.cls
      have hx := Hrgx.out wq
      have he : Erg 4 (.int .i64 (min P (n : Int))) wq := by rw [Hrge4.out]
      have HK := Lib.hid (And.intro hk (And.intro he hx))
      clear hk hx he
      go_simp
      exact HK.out
    · intro Lq wq xq hh
      have d4 : Erg 4 (xq 4) wq := hh.val 4 (by kernel_rfl) (by kernel_rfl)
      rw [Hrge4.out] at d4
      simp only [hFrg, d4]
      clear d4
      refine .inl ⟨rfl, ?_⟩
      unfold Reg.upon
      go_simp
      exact ⟨Hrgk.out 5 Lq wq hh.cls, (by rw [Hrge5.out, ← HF.out]), Hrgx.out _⟩
    · intro Lq wq xq hh
      simp only [hFrg]
      refine .inl ⟨rfl, ?_⟩
      unfold Reg.upon
      have hk := Hrgk.out 6 Lq wq  hh.cls
      have hx := Hrgx.out wq
      have he : Erg 6 (.pointer (some ⟨gb, 2, none⟩)) wq := by rw [Hrge6.out]
      have HK := Lib.hid (And.intro hk (And.intro he hx))
      clear hk hx he
      go_simp
      exact HK.out
    · intro Lq wq xq hh
      have d6 : Erg 6 (xq 6) wq := hh.val 6 (by kernel_rfl) (by kernel_rfl)
      rw [Hrge6.out] at d6
      simp only [hFrg, d6]
      clear d6
      refine .inl ⟨rfl, ?_⟩
      unfold Reg.upon
      have hc : Crg Lq wq := hh.cls
      rw [HrghC.out] at hc
      have q2 := (hc.cell (p := ⟨gb, 2, none⟩) HH.out.lt).trans a2
      clear hc
      have hk := Hrgk.out 7 Lq wq  hh.cls
      have hx := Hrgx.out wq
      have he : Erg 7 (.int .i64 Q) wq := by rw [Hrge7.out]
      have HK := Lib.hid (And.intro hk (And.intro he hx))
      clear hk hx he
      go_simp
      exact HK.out
    · intro Lq wq xq hh
      simp only [hFrg]
      refine .inl ⟨rfl, ?_⟩
      unfold Reg.upon
      have hk := Hrgk.out 8 Lq wq  hh.cls
      have hx := Hrgx.out wq
      have he : Erg 8 (.slice ao n ca) wq := by rw [Hrge8.out]
      have HK := Lib.hid (And.intro hk (And.intro he hx))
      clear hk hx he
      go_simp
      exact HK.out
    · intro Lq wq xq hh
      have d8 : Erg 8 (xq 8) wq := hh.val 8 (by kernel_rfl) (by kernel_rfl)
      rw [Hrge8.out] at d8
      simp only [hFrg, d8]
      clear d8
      refine .inl ⟨rfl, ?_⟩
      unfold Reg.upon
      have hk := Hrgk.out 9 Lq wq  hh.cls
      have hx := Hrgx.out wq
      have he : Erg 9 (.int .i64 n) wq := by rw [Hrge9.out]
      have HK := Lib.hid (And.intro hk (And.intro he hx))
      clear hk hx he
      go_simp
      exact HK.out
    · intro Lq wq xq hh
      have d7 : Erg 7 (xq 7) wq := hh.val 7 (by kernel_rfl) (by kernel_rfl)
      rw [Hrge7.out] at d7
      have d9 : Erg 9 (xq 9) wq := hh.val 9 (by kernel_rfl) (by kernel_rfl)
      rw [Hrge9.out] at d9
      simp only [hFrg, d7, d9]
      clear d7 d9
      refine .inl ⟨rfl, ?_⟩
      unfold Reg.upon
      have hk := Hrgk.out 10 Lq wq  hh.cls
      have hx := Hrgx.out wq
      have he : Erg 10 (.int .i64 (min Q (n : Int))) wq := by rw [Hrge10.out]
      have HK := Lib.hid (And.intro hk (And.intro he hx))
      clear hk hx he
      go_simp
      exact HK.out
    · intro Lq wq xq hh
      have d10 : Erg 10 (xq 10) wq := hh.val 10 (by kernel_rfl) (by kernel_rfl)
      rw [Hrge10.out] at d10
      simp only [hFrg, d10]
      clear d10
      refine .inl ⟨rfl, ?_⟩
      unfold Reg.upon
      go_simp
      exact ⟨Hrgk.out 11 Lq wq hh.cls, (by rw [Hrge11.out, ← HT.out]), Hrgx.out _⟩
    · intro Lq wq xq hh
      have d5 : Erg 5 (xq 5) wq := hh.val 5 (by kernel_rfl) (by kernel_rfl)
      rw [Hrge5.out] at d5
      simp only [hFrg, d5]
      clear d5
      refine .inl ⟨rfl, ?_⟩
      unfold Reg.upon
      have hk := Hrgk.out 12 Lq wq  hh.cls
      have hx := Hrgx.out wq
      have he : Erg 12 (.int .i64 (f : Int)) wq := by rw [Hrge12.out]
      have HK := Lib.hid (And.intro hk (And.intro he hx))
      clear hk hx he
      go_simp
      exact HK.out
    · intro Lq wq xq hh
      have d11 : Erg 11 (xq 11) wq := hh.val 11 (by kernel_rfl) (by kernel_rfl)
      rw [Hrge11.out] at d11
      simp only [hFrg, d11]
      clear d11
      refine .inl ⟨rfl, ?_⟩
      unfold Reg.upon
      have hk := Hrgk.out 13 Lq wq  hh.cls
      have hx := Hrgx.out wq
      have he : Erg 13 (.int .i64 (t : Int)) wq := by rw [Hrge13.out]
      have HK := Lib.hid (And.intro hk (And.intro he hx))
      clear hk hx he
      go_simp
      exact HK.out
  intro xq wrg hcrg hvrg
  rw [HrghC.out] at hcrg
  simp only [hFrg]
  have vrg12 : Erg 12 (xq 12) wrg := hvrg 12 (by decide)
  rw [Hrge12.out] at vrg12
  rw [vrg12]
  have vrg13 : Erg 13 (xq 13) wrg := hvrg 13 (by decide)
  rw [Hrge13.out] at vrg13
  rw [vrg13]
  clear hvrg hFrg Hrgk Hrgx Hrgst Hrgc HrghC HrghX Hrgb Hrgxb Hrge0 Hrge1 Hrge2 Hrge3 Hrge4 Hrge5 Hrge6 Hrge7 Hrge8 Hrge9 Hrge10 Hrge11 Hrge12 Hrge13
  have HBW := Lib.hid (B.out.trans (hcrg.mono B.out.size))
  have hm9 := H9.out.below hcrg
  have hl9 := HA7.out.below hcrg
  have HH9 := Lib.hid (HH.out.below hcrg HH.out.lt)
  clear hcrg a1 a2 H9 HA7 HH B
  obtain ⟨wb, hwb⟩ : ∃ wb, wb = wrg := ⟨_, rfl⟩
  rw [← hwb] at hm9 hl9 HBW HH9 ⊢
  clear hwb
  have hm9' : HeldE lineE (fun b => w7.heap.size ≤ b) wb (.slice mo Lm.length mc) Lm := by rw [HLM.out]; exact hm9
  have hl9' : HeldE lineE (fun b => b < W.heap.size) wb (.slice ao Ls.length ca) Ls := by rw [← HN.out]; exact hl9
  obtain ⟨_, hmc, hcm⟩ := lines_at hm9'
  obtain ⟨_, hlc, hcl⟩ := lines_at hl9'
  obtain ⟨bm, om, hmo⟩ : ∃ b off, mo = some ⟨b, off, none⟩ := by
    obtain ⟨b, off, _, h, _⟩ := hcm 0 (by rw [HLM.out]; exact h0)
    exact ⟨b, off, h⟩
  obtain ⟨bl, ol, hao⟩ : ∃ b off, ao = some ⟨b, off, none⟩ := by
    obtain ⟨b, off, _, h, _⟩ := hcl 0 (by rw [← HN.out]; exact h0)
    exact ⟨b, off, h⟩
  subst hmo hao
  have HCM := Lib.hid (show ∀ i, i < n → ∃ v, bm < wb.heap.size ∧ wb.cell? ⟨bm, om + i * 2, none⟩ = some v ∧ wb.cell? ⟨bm, om + i * 2 + 1, none⟩ = some (.bool (Lm.getD i zl).2) ∧ HeldE cellE (fun b => w7.heap.size ≤ b) wb v (Lm.getD i zl).1 from fun i hi => by
    obtain ⟨b, off, v, e, hb, _, r⟩ := hcm i (by rw [HLM.out]; exact hi)
    cases e
    exact ⟨v, hb, r⟩)
  have HCL := Lib.hid (show ∀ i, i < n → ∃ v, bl < wb.heap.size ∧ wb.cell? ⟨bl, ol + i * 2, none⟩ = some v ∧ HeldE cellE (fun b => b < W.heap.size) wb v (Ls.getD i zl).1 from fun i hi => by
    obtain ⟨b, off, v, e, hb, _, r1, _, r2⟩ := hcl i (by rw [← HN.out]; exact hi)
    cases e
    exact ⟨v, hb, r1, r2⟩)
  rw [HLM.out] at hmc
  rw [← HN.out] at hlc
  obtain ⟨i0, hi, hz0, hz1, hz2⟩ := info_parts info_cell
  have HI := Lib.hid (And.intro hi (And.intro hz0 (And.intro hz1 hz2)))
  clear hm9 hl9 hm9' hl9' hcm hcl hi hz0 hz1 hz2
  go_wp2
  go_loopw [12] (fun i wr => ∃ k : Nat, k ≤ n ∧ i = .int .i64 k ∧ Below wb.heap.size wb wr) (fun i _ => n - (intOf i).toNat)
  case atStart => exact ⟨0, Nat.zero_le _, rfl, Below.refl _ _⟩
  case round =>
    obtain ⟨k, hk, rfl, hbw⟩ := hrel
    obtain ⟨wk, hwk⟩ : ∃ wk, wk = wr := ⟨_, rfl⟩
    subst hwk
    have HB := Lib.hid hbw
    clear hbw
    by_cases hlt : k < n
    · obtain ⟨vm, hbm, m0, m1, hm⟩ := HCM.out k hlt
      obtain ⟨vl, hbl, l0, hl⟩ := HCL.out k hlt
      have hwd := HLW.out k hlt
      have m0 := (HB.out.cell (p := ⟨bm, om + k * 2, none⟩) hbm).trans m0
      have m1 := (HB.out.cell (p := ⟨bm, om + k * 2 + 1, none⟩) hbm).trans m1
      have l0 := (HB.out.cell (p := ⟨bl, ol + k * 2, none⟩) hbl).trans l0
      have hlc2 : k < ca := by omega
      have hmc2 : k < mc := by omega
      by_cases hin : f ≤ k ∧ k < t
      · have HIK := Lib.hid (HIN.out k hlt hin)
        have t1 : decide ((f : Int) ≤ k) = true := by rw [decide_eq_true_eq]; omega
        have t1n : decide (f ≤ k) = true := by rw [decide_eq_true_eq]; omega
        have t2 : decide ((k : Int) < t) = true := by rw [decide_eq_true_eq]; omega
        have t2n : decide (k < t) = true := by rw [decide_eq_true_eq]; omega
        have HFT := Lib.hid (show f < t by omega)
        obtain ⟨y, hy⟩ : ∃ y, y = Ls.getD k zl := ⟨_, rfl⟩
        rw [← hy] at hl hwd HIK
        obtain ⟨z, hz⟩ : ∃ z, z = Lm.getD k zl := ⟨_, rfl⟩
        rw [← hz] at hm m1 HIK
        have HM := Lib.hid hm
        obtain ⟨al, xl, rfl⟩ := hl.len
        obtain ⟨wd, hwd2⟩ : ∃ wd, wd = y.1.length := ⟨_, rfl⟩
        rw [← hwd2] at l0 HIK hwd
        clear hin hy hz hl hm hwd2
        have a3 := (HB.out.cell (p := ⟨gb, 3, none⟩) HH9.out.lt).trans (HH9.out.cell 3 _ rfl)
        have hw1 : IntKind.i64.wrap ((t : Int) - f) = (t : Int) - f := by rw [IntKind.wrap_i64]; omega
        by_cases hR1 : (t : Int) - f ≤ R
        · have hz9 := HIK.out hR1
          subst hz9
          have HM := Lib.hid (show HeldE cellE (fun b => w7.heap.size ≤ b) wb vm (List.replicate wd zc) from HM.out)
          obtain ⟨am, xm, hvm⟩ := HM.out.len
          rw [List.length_replicate] at hvm
          have m1 : wk.cell? ⟨bm, om + k * 2 + 1, none⟩ = some (.bool false) := m1
          subst hvm
          have HM0 := Lib.hid m0
          have HM1 := Lib.hid m1
          have HL0 := Lib.hid l0
          have HA3 := Lib.hid a3
          have hge : decide ((t : Int) - f ≤ R) = true := by rw [decide_eq_true_eq]; exact hR1
          have HBM := Lib.hid (show bm < wk.heap.size ∧ bl < wk.heap.size ∧ gb < wk.heap.size from ⟨Nat.lt_of_lt_of_le hbm HB.out.size, Nat.lt_of_lt_of_le hbl HB.out.size, Nat.lt_of_lt_of_le HH9.out.lt HB.out.size⟩)
          clear hR1 hbm hbl m0 m1 l0 a3
          go_upto_region 14 with (fail)
          refine wp_region_ext (by kernel_rfl) (by kernel_rfl) ?_
          repeat (go_big_quiet_step ((fail)))
          refine wpQuiet_nil ?_
          intro _ hw'
          obtain ⟨u, hw''⟩ := hw'
          subst hw''
          obtain ⟨wA, hwA⟩ : ∃ wA, wA = ext wk u := ⟨_, rfl⟩
          have bA : Below wk.heap.size wk wA := by rw [hwA]; exact u.ok
          rw [← hwA]
          have HBA := Lib.hid bA
          clear bA hwA
          go_upto_region 16 with (fail)
          obtain ⟨Ergc, hErgc⟩ : ∃ EE : Nat → Value → World → Prop, EE = fun jj xx ww => match jj with
              | 0 => xx = .bool true
              | 1 => xx = .bool true
              | 2 => xx = .pointer (some ⟨gb, 3, none⟩)
              | 3 => xx = .int .i64 R
              | 4 => xx = .int .i64 (t : Int)
              | 5 => xx = .int .i64 (f : Int)
              | 6 => xx = .int .i64 ((t : Int) - f)
              | 7 => xx = .bool true
              | 8 => xx = .bool true
              | 9 => xx = .bool true
              | 10 => xx = .slice (some ⟨bm, om, none⟩) n mc
              | 11 => xx = .int .i64 (k : Int)
              | 12 => xx = .pointer (some ⟨bm, om + k * 2, none⟩)
              | 13 => xx = .pointer (some ⟨bm, om + k * 2 + 1, none⟩)
              | 14 => xx = .bool false
              | 15 => xx = .bool false
              | 16 => xx = .slice (some ⟨bm, om, none⟩) n mc
              | 17 => xx = .int .i64 (k : Int)
              | 18 => xx = .pointer (some ⟨bm, om + k * 2, none⟩)
              | 19 => xx = .pointer (some ⟨bm, om + k * 2, none⟩)
              | 20 => xx = .slice am wd xm
              | 21 => xx = .slice (some ⟨bl, ol, none⟩) n ca
              | 22 => xx = .int .i64 (k : Int)
              | 23 => xx = .pointer (some ⟨bl, ol + k * 2, none⟩)
              | 24 => xx = .pointer (some ⟨bl, ol + k * 2, none⟩)
              | 25 => xx = .slice al wd xl
              | 26 => xx = .int .i64 (wd : Int)
              | 27 => (fun x w' => HeldE cellE (fun _ => True) w' x (List.replicate wd zc)) xx ww
              | 28 => xx = .bool true
              | 29 => xx = .bool false
              | 30 => xx = .bool false
              | 31 => xx = .bool false
              | _ => True := ⟨_, rfl⟩
          have ergc0 : ∀ xx ww, Ergc 0 xx ww = (xx = .bool true) := fun xx ww => congrFun (congrFun (congrFun hErgc 0) xx) ww
          have ergc1 : ∀ xx ww, Ergc 1 xx ww = (xx = .bool true) := fun xx ww => congrFun (congrFun (congrFun hErgc 1) xx) ww
          have ergc2 : ∀ xx ww, Ergc 2 xx ww = (xx = .pointer (some ⟨gb, 3, none⟩)) := fun xx ww => congrFun (congrFun (congrFun hErgc 2) xx) ww
          have ergc3 : ∀ xx ww, Ergc 3 xx ww = (xx = .int .i64 R) := fun xx ww => congrFun (congrFun (congrFun hErgc 3) xx) ww
          have ergc4 : ∀ xx ww, Ergc 4 xx ww = (xx = .int .i64 (t : Int)) := fun xx ww => congrFun (congrFun (congrFun hErgc 4) xx) ww
          have ergc5 : ∀ xx ww, Ergc 5 xx ww = (xx = .int .i64 (f : Int)) := fun xx ww => congrFun (congrFun (congrFun hErgc 5) xx) ww
          have ergc6 : ∀ xx ww, Ergc 6 xx ww = (xx = .int .i64 ((t : Int) - f)) := fun xx ww => congrFun (congrFun (congrFun hErgc 6) xx) ww
          have ergc7 : ∀ xx ww, Ergc 7 xx ww = (xx = .bool true) := fun xx ww => congrFun (congrFun (congrFun hErgc 7) xx) ww
          have ergc8 : ∀ xx ww, Ergc 8 xx ww = (xx = .bool true) := fun xx ww => congrFun (congrFun (congrFun hErgc 8) xx) ww
          have ergc9 : ∀ xx ww, Ergc 9 xx ww = (xx = .bool true) := fun xx ww => congrFun (congrFun (congrFun hErgc 9) xx) ww
          have ergc10 : ∀ xx ww, Ergc 10 xx ww = (xx = .slice (some ⟨bm, om, none⟩) n mc) := fun xx ww => congrFun (congrFun (congrFun hErgc 10) xx) ww
          have ergc11 : ∀ xx ww, Ergc 11 xx ww = (xx = .int .i64 (k : Int)) := fun xx ww => congrFun (congrFun (congrFun hErgc 11) xx) ww
          have ergc12 : ∀ xx ww, Ergc 12 xx ww = (xx = .pointer (some ⟨bm, om + k * 2, none⟩)) := fun xx ww => congrFun (congrFun (congrFun hErgc 12) xx) ww
          have ergc13 : ∀ xx ww, Ergc 13 xx ww = (xx = .pointer (some ⟨bm, om + k * 2 + 1, none⟩)) := fun xx ww => congrFun (congrFun (congrFun hErgc 13) xx) ww
          have ergc14 : ∀ xx ww, Ergc 14 xx ww = (xx = .bool false) := fun xx ww => congrFun (congrFun (congrFun hErgc 14) xx) ww
          have ergc15 : ∀ xx ww, Ergc 15 xx ww = (xx = .bool false) := fun xx ww => congrFun (congrFun (congrFun hErgc 15) xx) ww
          have ergc16 : ∀ xx ww, Ergc 16 xx ww = (xx = .slice (some ⟨bm, om, none⟩) n mc) := fun xx ww => congrFun (congrFun (congrFun hErgc 16) xx) ww
          have ergc17 : ∀ xx ww, Ergc 17 xx ww = (xx = .int .i64 (k : Int)) := fun xx ww => congrFun (congrFun (congrFun hErgc 17) xx) ww
          have ergc18 : ∀ xx ww, Ergc 18 xx ww = (xx = .pointer (some ⟨bm, om + k * 2, none⟩)) := fun xx ww => congrFun (congrFun (congrFun hErgc 18) xx) ww
          have ergc19 : ∀ xx ww, Ergc 19 xx ww = (xx = .pointer (some ⟨bm, om + k * 2, none⟩)) := fun xx ww => congrFun (congrFun (congrFun hErgc 19) xx) ww
          have ergc20 : ∀ xx ww, Ergc 20 xx ww = (xx = .slice am wd xm) := fun xx ww => congrFun (congrFun (congrFun hErgc 20) xx) ww
          have ergc21 : ∀ xx ww, Ergc 21 xx ww = (xx = .slice (some ⟨bl, ol, none⟩) n ca) := fun xx ww => congrFun (congrFun (congrFun hErgc 21) xx) ww
          have ergc22 : ∀ xx ww, Ergc 22 xx ww = (xx = .int .i64 (k : Int)) := fun xx ww => congrFun (congrFun (congrFun hErgc 22) xx) ww
          have ergc23 : ∀ xx ww, Ergc 23 xx ww = (xx = .pointer (some ⟨bl, ol + k * 2, none⟩)) := fun xx ww => congrFun (congrFun (congrFun hErgc 23) xx) ww
          have ergc24 : ∀ xx ww, Ergc 24 xx ww = (xx = .pointer (some ⟨bl, ol + k * 2, none⟩)) := fun xx ww => congrFun (congrFun (congrFun hErgc 24) xx) ww
          have ergc25 : ∀ xx ww, Ergc 25 xx ww = (xx = .slice al wd xl) := fun xx ww => congrFun (congrFun (congrFun hErgc 25) xx) ww
          have ergc26 : ∀ xx ww, Ergc 26 xx ww = (xx = .int .i64 (wd : Int)) := fun xx ww => congrFun (congrFun (congrFun hErgc 26) xx) ww
          have ergc27 : ∀ xx ww, Ergc 27 xx ww = ((fun x w' => HeldE cellE (fun _ => True) w' x (List.replicate wd zc)) xx ww) := fun xx ww => congrFun (congrFun (congrFun hErgc 27) xx) ww
          have ergc28 : ∀ xx ww, Ergc 28 xx ww = (xx = .bool true) := fun xx ww => congrFun (congrFun (congrFun hErgc 28) xx) ww
          have ergc29 : ∀ xx ww, Ergc 29 xx ww = (xx = .bool false) := fun xx ww => congrFun (congrFun (congrFun hErgc 29) xx) ww
          have ergc30 : ∀ xx ww, Ergc 30 xx ww = (xx = .bool false) := fun xx ww => congrFun (congrFun (congrFun hErgc 30) xx) ww
          have ergc31 : ∀ xx ww, Ergc 31 xx ww = (xx = .bool false) := fun xx ww => congrFun (congrFun (congrFun hErgc 31) xx) ww
          obtain ⟨Crgc, hCrgc⟩ : ∃ CC : Array Bool → World → Prop, CC = fun L8 w' => Below wA.heap.size wA w' := ⟨_, rfl⟩
          have krgc : ∀ i L w,  Crgc L w → Crgc (L.setIfInBounds i true) w := by
            intro i L w  h
            rw [hCrgc] at h ⊢
            exact h
          obtain ⟨Xrgc, hXrgc⟩ : ∃ XX : World → World → Prop, XX = fun x y => Below x.heap.size x y := ⟨_, rfl⟩
          have xrgc : ∀ w, Xrgc w w := fun w => by rw [hXrgc]; exact Below.refl _ _
          have strgc : ∀ j x w w1, Xrgc w w1 → Ergc j x w → Ergc j x w1 := by
            intro j x w w1 hx h
            rw [hXrgc] at hx
            match j with
            | 0 => rw [ergc0] at h ⊢; exact h
            | 1 => rw [ergc1] at h ⊢; exact h
            | 2 => rw [ergc2] at h ⊢; exact h
            | 3 => rw [ergc3] at h ⊢; exact h
            | 4 => rw [ergc4] at h ⊢; exact h
            | 5 => rw [ergc5] at h ⊢; exact h
            | 6 => rw [ergc6] at h ⊢; exact h
            | 7 => rw [ergc7] at h ⊢; exact h
            | 8 => rw [ergc8] at h ⊢; exact h
            | 9 => rw [ergc9] at h ⊢; exact h
            | 10 => rw [ergc10] at h ⊢; exact h
            | 11 => rw [ergc11] at h ⊢; exact h
            | 12 => rw [ergc12] at h ⊢; exact h
            | 13 => rw [ergc13] at h ⊢; exact h
            | 14 => rw [ergc14] at h ⊢; exact h
            | 15 => rw [ergc15] at h ⊢; exact h
            | 16 => rw [ergc16] at h ⊢; exact h
            | 17 => rw [ergc17] at h ⊢; exact h
            | 18 => rw [ergc18] at h ⊢; exact h
            | 19 => rw [ergc19] at h ⊢; exact h
            | 20 => rw [ergc20] at h ⊢; exact h
            | 21 => rw [ergc21] at h ⊢; exact h
            | 22 => rw [ergc22] at h ⊢; exact h
            | 23 => rw [ergc23] at h ⊢; exact h
            | 24 => rw [ergc24] at h ⊢; exact h
            | 25 => rw [ergc25] at h ⊢; exact h
            | 26 => rw [ergc26] at h ⊢; exact h
            | 27 => rw [ergc27] at h ⊢; (exact HeldE.below h hx)
            | 28 => rw [ergc28] at h ⊢; exact h
            | 29 => rw [ergc29] at h ⊢; exact h
            | 30 => rw [ergc30] at h ⊢; exact h
            | 31 => rw [ergc31] at h ⊢; exact h
            | j + 32 => rw [hErgc]; trivial
          have crgc : Crgc (Array.replicate 32 false) wA.drew := by rw [hCrgc]; exact (Below.refl _ _).drew
          have brgc : ∀ L w w1, Crgc L w → Below w.heap.size w w1 → Crgc L w1 := by
            intro L w w1 h hb
            rw [hCrgc] at h ⊢
            exact h.trans (hb.mono h.size)
          have xbrgc : ∀ w w1, Below w.heap.size w w1 → Xrgc w w1 := by
            intro w w1 hb
            rw [hXrgc]
            exact hb
          have Hrgcb := Lib.hid brgc
          have Hrgcxb := Lib.hid xbrgc
          clear brgc xbrgc
          clear hErgc
          have Hrgck := Lib.hid krgc
          have Hrgcx := Lib.hid xrgc
          have Hrgcst := Lib.hid strgc
          have Hrgcc := Lib.hid crgc
          have HrgchC := Lib.hid hCrgc
          have HrgchX := Lib.hid hXrgc
          have Hrgce0 := Lib.hid ergc0
          have Hrgce1 := Lib.hid ergc1
          have Hrgce2 := Lib.hid ergc2
          have Hrgce3 := Lib.hid ergc3
          have Hrgce4 := Lib.hid ergc4
          have Hrgce5 := Lib.hid ergc5
          have Hrgce6 := Lib.hid ergc6
          have Hrgce7 := Lib.hid ergc7
          have Hrgce8 := Lib.hid ergc8
          have Hrgce9 := Lib.hid ergc9
          have Hrgce10 := Lib.hid ergc10
          have Hrgce11 := Lib.hid ergc11
          have Hrgce12 := Lib.hid ergc12
          have Hrgce13 := Lib.hid ergc13
          have Hrgce14 := Lib.hid ergc14
          have Hrgce15 := Lib.hid ergc15
          have Hrgce16 := Lib.hid ergc16
          have Hrgce17 := Lib.hid ergc17
          have Hrgce18 := Lib.hid ergc18
          have Hrgce19 := Lib.hid ergc19
          have Hrgce20 := Lib.hid ergc20
          have Hrgce21 := Lib.hid ergc21
          have Hrgce22 := Lib.hid ergc22
          have Hrgce23 := Lib.hid ergc23
          have Hrgce24 := Lib.hid ergc24
          have Hrgce25 := Lib.hid ergc25
          have Hrgce26 := Lib.hid ergc26
          have Hrgce27 := Lib.hid ergc27
          have Hrgce28 := Lib.hid ergc28
          have Hrgce29 := Lib.hid ergc29
          have Hrgce30 := Lib.hid ergc30
          have Hrgce31 := Lib.hid ergc31
          clear krgc xrgc strgc crgc hCrgc hXrgc ergc0 ergc1 ergc2 ergc3 ergc4 ergc5 ergc6 ergc7 ergc8 ergc9 ergc10 ergc11 ergc12 ergc13 ergc14 ergc15 ergc16 ergc17 ergc18 ergc19 ergc20 ergc21 ergc22 ergc23 ergc24 ergc25 ergc26 ergc27 ergc28 ergc29 ergc30 ergc31
          go_wp2_with fail
          refine Reg.regionF Ergc Crgc Xrgc Hrgcst.out (by kernel_rfl) (by kernel_rfl) (by kernel_rfl) Hrgcc.out (fun Frgc hFrgc => ?_)
          simp only [Reg.frame, Reg.dsts, List.map_cons, List.map_nil, Mix.put_lit, List.set_cons_succ, List.set_cons_zero, Nat.zero_add, Nat.reduceAdd] at hFrgc
          refine ⟨?_, ?_⟩
          · refine ⟨?_, ?_, ?_, ?_, ?_, ?_, ?_, ?_, ?_, ?_, ?_, ?_, ?_, ?_, ?_, ?_, ?_, ?_, ?_, ?_, ?_, ?_, ?_, ?_, ?_, ?_, ?_, ?_, ?_, ?_, ?_, ?_, trivial⟩
            · intro Lq wq xq hh
              simp only [hFrgc]
              refine .inl ⟨rfl, ?_⟩
              unfold Reg.upon
              have hk := Hrgck.out 0 Lq wq  hh.cls
              have hx := Hrgcx.out wq
              have he : Ergc 0 (.bool true) wq := by rw [Hrgce0.out]
              have HK := Lib.hid (And.intro hk (And.intro he hx))
              clear hk hx he
              go_simp
              exact HK.out
            · intro Lq wq xq hh
              have d0 : Ergc 0 (xq 0) wq := hh.val 0 (by kernel_rfl) (by kernel_rfl)
              rw [Hrgce0.out] at d0
              simp only [hFrgc, d0]
              clear d0
              refine .inl ⟨rfl, ?_⟩
              unfold Reg.upon
              have hk := Hrgck.out 1 Lq wq  hh.cls
              have hx := Hrgcx.out wq
              have he : Ergc 1 (.bool true) wq := by rw [Hrgce1.out]
              have HK := Lib.hid (And.intro hk (And.intro he hx))
              clear hk hx he
              go_simp
              exact HK.out
            · intro Lq wq xq hh
              have d1 : Ergc 1 (xq 1) wq := hh.val 1 (by kernel_rfl) (by kernel_rfl)
              rw [Hrgce1.out] at d1
              simp only [hFrgc, d1]
              clear d1
              refine .inl ⟨rfl, ?_⟩
              unfold Reg.upon
              have hk := Hrgck.out 2 Lq wq  hh.cls
              have hx := Hrgcx.out wq
              have he : Ergc 2 (.pointer (some ⟨gb, 3, none⟩)) wq := by rw [Hrgce2.out]
              have HK := Lib.hid (And.intro hk (And.intro he hx))
              clear hk hx he
              go_simp
              exact HK.out
            · intro Lq wq xq hh
              have d1 : Ergc 1 (xq 1) wq := hh.val 1 (by kernel_rfl) (by kernel_rfl)
              rw [Hrgce1.out] at d1
              have d2 : Ergc 2 (xq 2) wq := hh.val 2 (by kernel_rfl) (by kernel_rfl)
              rw [Hrgce2.out] at d2
              simp only [hFrgc, d1, d2]
              clear d1 d2
              refine .inl ⟨rfl, ?_⟩
              unfold Reg.upon
              have hc : Crgc Lq wq := hh.cls
              rw [HrgchC.out] at hc
              have q3 := ((HBA.out.trans (hc.mono HBA.out.size)).cell (p := ⟨gb, 3, none⟩) HBM.out.2.2).trans HA3.out
              clear hc
              have hk := Hrgck.out 3 Lq wq  hh.cls
              have hx := Hrgcx.out wq
              have he : Ergc 3 (.int .i64 R) wq := by rw [Hrgce3.out]
              have HK := Lib.hid (And.intro hk (And.intro he hx))
              clear hk hx he
              go_simp
              exact HK.out
            · intro Lq wq xq hh
              have d1 : Ergc 1 (xq 1) wq := hh.val 1 (by kernel_rfl) (by kernel_rfl)
              rw [Hrgce1.out] at d1
              simp only [hFrgc, d1]
              clear d1
              refine .inl ⟨rfl, ?_⟩
              unfold Reg.upon
              have hk := Hrgck.out 4 Lq wq  hh.cls
              have hx := Hrgcx.out wq
              have he : Ergc 4 (.int .i64 (t : Int)) wq := by rw [Hrgce4.out]
              have HK := Lib.hid (And.intro hk (And.intro he hx))
              clear hk hx he
              go_simp
              exact HK.out
            · intro Lq wq xq hh
              have d1 : Ergc 1 (xq 1) wq := hh.val 1 (by kernel_rfl) (by kernel_rfl)
              rw [Hrgce1.out] at d1
              simp only [hFrgc, d1]
              clear d1
              refine .inl ⟨rfl, ?_⟩
              unfold Reg.upon
              have hk := Hrgck.out 5 Lq wq  hh.cls
              have hx := Hrgcx.out wq
              have he : Ergc 5 (.int .i64 (f : Int)) wq := by rw [Hrgce5.out]
              have HK := Lib.hid (And.intro hk (And.intro he hx))
              clear hk hx he
              go_simp
              exact HK.out
            · intro Lq wq xq hh
              have d1 : Ergc 1 (xq 1) wq := hh.val 1 (by kernel_rfl) (by kernel_rfl)
              rw [Hrgce1.out] at d1
              have d4 : Ergc 4 (xq 4) wq := hh.val 4 (by kernel_rfl) (by kernel_rfl)
              rw [Hrgce4.out] at d4
              have d5 : Ergc 5 (xq 5) wq := hh.val 5 (by kernel_rfl) (by kernel_rfl)
              rw [Hrgce5.out] at d5
              simp only [hFrgc, d1, d4, d5]
              clear d1 d4 d5
              refine .inl ⟨rfl, ?_⟩
              unfold Reg.upon
              have hk := Hrgck.out 6 Lq wq  hh.cls
              have hx := Hrgcx.out wq
              have he : Ergc 6 (.int .i64 ((t : Int) - f)) wq := by rw [Hrgce6.out]
              have HK := Lib.hid (And.intro hk (And.intro he hx))
              clear hk hx he
              go_simp
              exact HK.out
            · intro Lq wq xq hh
              have d1 : Ergc 1 (xq 1) wq := hh.val 1 (by kernel_rfl) (by kernel_rfl)
              rw [Hrgce1.out] at d1
              have d3 : Ergc 3 (xq 3) wq := hh.val 3 (by kernel_rfl) (by kernel_rfl)
              rw [Hrgce3.out] at d3
              have d6 : Ergc 6 (xq 6) wq := hh.val 6 (by kernel_rfl) (by kernel_rfl)
              rw [Hrgce6.out] at d6
              simp only [hFrgc, d1, d3, d6]
              clear d1 d3 d6
              refine .inl ⟨rfl, ?_⟩
              unfold Reg.upon
              have hk := Hrgck.out 7 Lq wq  hh.cls
              have hx := Hrgcx.out wq
              have he : Ergc 7 (.bool true) wq := by rw [Hrgce7.out]
              have HK := Lib.hid (And.intro hk (And.intro he hx))
              clear hk hx he
              go_simp
              exact HK.out
            · intro Lq wq xq hh
              have d1 : Ergc 1 (xq 1) wq := hh.val 1 (by kernel_rfl) (by kernel_rfl)
              rw [Hrgce1.out] at d1
              have d7 : Ergc 7 (xq 7) wq := hh.val 7 (by kernel_rfl) (by kernel_rfl)
              rw [Hrgce7.out] at d7
              simp only [hFrgc, d1, d7]
              clear d1 d7
              refine .inl ⟨rfl, ?_⟩
              unfold Reg.upon
              have hk := Hrgck.out 8 Lq wq  hh.cls
              have hx := Hrgcx.out wq
              have he : Ergc 8 (.bool true) wq := by rw [Hrgce8.out]
              have HK := Lib.hid (And.intro hk (And.intro he hx))
              clear hk hx he
              go_simp
              exact HK.out
            · intro Lq wq xq hh
              have d8 : Ergc 8 (xq 8) wq := hh.val 8 (by kernel_rfl) (by kernel_rfl)
              rw [Hrgce8.out] at d8
              simp only [hFrgc, d8]
              clear d8
              refine .inl ⟨rfl, ?_⟩
              unfold Reg.upon
              have hk := Hrgck.out 9 Lq wq  hh.cls
              have hx := Hrgcx.out wq
              have he : Ergc 9 (.bool true) wq := by rw [Hrgce9.out]
              have HK := Lib.hid (And.intro hk (And.intro he hx))
              clear hk hx he
              go_simp
              exact HK.out
            · intro Lq wq xq hh
              have d9 : Ergc 9 (xq 9) wq := hh.val 9 (by kernel_rfl) (by kernel_rfl)
              rw [Hrgce9.out] at d9
              simp only [hFrgc, d9]
              clear d9
              refine .inl ⟨rfl, ?_⟩
              unfold Reg.upon
              have hk := Hrgck.out 10 Lq wq  hh.cls
              have hx := Hrgcx.out wq
              have he : Ergc 10 (.slice (some ⟨bm, om, none⟩) n mc) wq := by rw [Hrgce10.out]
              have HK := Lib.hid (And.intro hk (And.intro he hx))
              clear hk hx he
              go_simp
              exact HK.out
            · intro Lq wq xq hh
              have d9 : Ergc 9 (xq 9) wq := hh.val 9 (by kernel_rfl) (by kernel_rfl)
              rw [Hrgce9.out] at d9
              simp only [hFrgc, d9]
              clear d9
              refine .inl ⟨rfl, ?_⟩
              unfold Reg.upon
              have hk := Hrgck.out 11 Lq wq  hh.cls
              have hx := Hrgcx.out wq
              have he : Ergc 11 (.int .i64 (k : Int)) wq := by rw [Hrgce11.out]
              have HK := Lib.hid (And.intro hk (And.intro he hx))
              clear hk hx he
              go_simp
              exact HK.out
            · intro Lq wq xq hh
              have d9 : Ergc 9 (xq 9) wq := hh.val 9 (by kernel_rfl) (by kernel_rfl)
              rw [Hrgce9.out] at d9
              have d10 : Ergc 10 (xq 10) wq := hh.val 10 (by kernel_rfl) (by kernel_rfl)
              rw [Hrgce10.out] at d10
              have d11 : Ergc 11 (xq 11) wq := hh.val 11 (by kernel_rfl) (by kernel_rfl)
              rw [Hrgce11.out] at d11
              simp only [hFrgc, d9, d10, d11]
              clear d9 d10 d11
              refine .inl ⟨rfl, ?_⟩
              unfold Reg.upon
              have hk := Hrgck.out 12 Lq wq  hh.cls
              have hx := Hrgcx.out wq
              have he : Ergc 12 (.pointer (some ⟨bm, om + k * 2, none⟩)) wq := by rw [Hrgce12.out]
              have HK := Lib.hid (And.intro hk (And.intro he hx))
              clear hk hx he
              go_simp
              exact HK.out
            · intro Lq wq xq hh
              have d9 : Ergc 9 (xq 9) wq := hh.val 9 (by kernel_rfl) (by kernel_rfl)
              rw [Hrgce9.out] at d9
              have d12 : Ergc 12 (xq 12) wq := hh.val 12 (by kernel_rfl) (by kernel_rfl)
              rw [Hrgce12.out] at d12
              simp only [hFrgc, d9, d12]
              clear d9 d12
              refine .inl ⟨rfl, ?_⟩
              unfold Reg.upon
              have hk := Hrgck.out 13 Lq wq  hh.cls
              have hx := Hrgcx.out wq
              have he : Ergc 13 (.pointer (some ⟨bm, om + k * 2 + 1, none⟩)) wq := by rw [Hrgce13.out]
              have HK := Lib.hid (And.intro hk (And.intro he hx))
              clear hk hx he
              go_simp
              exact HK.out
            · intro Lq wq xq hh
              have d9 : Ergc 9 (xq 9) wq := hh.val 9 (by kernel_rfl) (by kernel_rfl)
              rw [Hrgce9.out] at d9
              have d13 : Ergc 13 (xq 13) wq := hh.val 13 (by kernel_rfl) (by kernel_rfl)
              rw [Hrgce13.out] at d13
              simp only [hFrgc, d9, d13]
              clear d9 d13
              refine .inl ⟨rfl, ?_⟩
              unfold Reg.upon
              have hc : Crgc Lq wq := hh.cls
              rw [HrgchC.out] at hc
              have q4 := ((HBA.out.trans (hc.mono HBA.out.size)).cell (p := ⟨bm, om + k * 2 + 1, none⟩) HBM.out.1).trans HM1.out
              clear hc
              have hk := Hrgck.out 14 Lq wq  hh.cls
              have hx := Hrgcx.out wq
              have he : Ergc 14 (.bool false) wq := by rw [Hrgce14.out]
              have HK := Lib.hid (And.intro hk (And.intro he hx))
              clear hk hx he
              go_simp
              exact HK.out
            · intro Lq wq xq hh
              have d9 : Ergc 9 (xq 9) wq := hh.val 9 (by kernel_rfl) (by kernel_rfl)
              rw [Hrgce9.out] at d9
              have d14 : Ergc 14 (xq 14) wq := hh.val 14 (by kernel_rfl) (by kernel_rfl)
              rw [Hrgce14.out] at d14
              simp only [hFrgc, d9, d14]
              clear d9 d14
              refine .inl ⟨rfl, ?_⟩
              unfold Reg.upon
              have hk := Hrgck.out 15 Lq wq  hh.cls
              have hx := Hrgcx.out wq
              have he : Ergc 15 (.bool false) wq := by rw [Hrgce15.out]
              have HK := Lib.hid (And.intro hk (And.intro he hx))
              clear hk hx he
              go_simp
              exact HK.out
            · intro Lq wq xq hh
              have d15 : Ergc 15 (xq 15) wq := hh.val 15 (by kernel_rfl) (by kernel_rfl)
              rw [Hrgce15.out] at d15
              simp only [hFrgc, d15]
              clear d15
              refine .inl ⟨rfl, ?_⟩
              unfold Reg.upon
              have hk := Hrgck.out 16 Lq wq  hh.cls
              have hx := Hrgcx.out wq
              have he : Ergc 16 (.slice (some ⟨bm, om, none⟩) n mc) wq := by rw [Hrgce16.out]
              have HK := Lib.hid (And.intro hk (And.intro he hx))
              clear hk hx he
              go_simp
              exact HK.out
            · intro Lq wq xq hh
              have d15 : Ergc 15 (xq 15) wq := hh.val 15 (by kernel_rfl) (by kernel_rfl)
              rw [Hrgce15.out] at d15
              simp only [hFrgc, d15]
              clear d15
              refine .inl ⟨rfl, ?_⟩
              unfold Reg.upon
              have hk := Hrgck.out 17 Lq wq  hh.cls
              have hx := Hrgcx.out wq
              have he : Ergc 17 (.int .i64 (k : Int)) wq := by rw [Hrgce17.out]
              have HK := Lib.hid (And.intro hk (And.intro he hx))
              clear hk hx he
              go_simp
              exact HK.out
            · intro Lq wq xq hh
              have d15 : Ergc 15 (xq 15) wq := hh.val 15 (by kernel_rfl) (by kernel_rfl)
              rw [Hrgce15.out] at d15
              have d16 : Ergc 16 (xq 16) wq := hh.val 16 (by kernel_rfl) (by kernel_rfl)
              rw [Hrgce16.out] at d16
              have d17 : Ergc 17 (xq 17) wq := hh.val 17 (by kernel_rfl) (by kernel_rfl)
              rw [Hrgce17.out] at d17
              simp only [hFrgc, d15, d16, d17]
              clear d15 d16 d17
              refine .inl ⟨rfl, ?_⟩
              unfold Reg.upon
              have hk := Hrgck.out 18 Lq wq  hh.cls
              have hx := Hrgcx.out wq
              have he : Ergc 18 (.pointer (some ⟨bm, om + k * 2, none⟩)) wq := by rw [Hrgce18.out]
              have HK := Lib.hid (And.intro hk (And.intro he hx))
              clear hk hx he
              go_simp
              exact HK.out
            · intro Lq wq xq hh
              have d15 : Ergc 15 (xq 15) wq := hh.val 15 (by kernel_rfl) (by kernel_rfl)
              rw [Hrgce15.out] at d15
              have d18 : Ergc 18 (xq 18) wq := hh.val 18 (by kernel_rfl) (by kernel_rfl)
              rw [Hrgce18.out] at d18
              simp only [hFrgc, d15, d18]
              clear d15 d18
              refine .inl ⟨rfl, ?_⟩
              unfold Reg.upon
              have hk := Hrgck.out 19 Lq wq  hh.cls
              have hx := Hrgcx.out wq
              have he : Ergc 19 (.pointer (some ⟨bm, om + k * 2, none⟩)) wq := by rw [Hrgce19.out]
              have HK := Lib.hid (And.intro hk (And.intro he hx))
              clear hk hx he
              go_simp
              exact HK.out
            · intro Lq wq xq hh
              have d15 : Ergc 15 (xq 15) wq := hh.val 15 (by kernel_rfl) (by kernel_rfl)
              rw [Hrgce15.out] at d15
              have d19 : Ergc 19 (xq 19) wq := hh.val 19 (by kernel_rfl) (by kernel_rfl)
              rw [Hrgce19.out] at d19
              simp only [hFrgc, d15, d19]
              clear d15 d19
              refine .inl ⟨rfl, ?_⟩
              unfold Reg.upon
              have hc : Crgc Lq wq := hh.cls
              rw [HrgchC.out] at hc
              have q5 := ((HBA.out.trans (hc.mono HBA.out.size)).cell (p := ⟨bm, om + k * 2, none⟩) HBM.out.1).trans HM0.out
              clear hc
              have hk := Hrgck.out 20 Lq wq  hh.cls
              have hx := Hrgcx.out wq
              have he : Ergc 20 (.slice am wd xm) wq := by rw [Hrgce20.out]
              have HK := Lib.hid (And.intro hk (And.intro he hx))
              clear hk hx he
              go_simp
              exact HK.out
            · intro Lq wq xq hh
              have d15 : Ergc 15 (xq 15) wq := hh.val 15 (by kernel_rfl) (by kernel_rfl)
              rw [Hrgce15.out] at d15
              simp only [hFrgc, d15]
              clear d15
              refine .inl ⟨rfl, ?_⟩
              unfold Reg.upon
              have hk := Hrgck.out 21 Lq wq  hh.cls
              have hx := Hrgcx.out wq
              have he : Ergc 21 (.slice (some ⟨bl, ol, none⟩) n ca) wq := by rw [Hrgce21.out]
              have HK := Lib.hid (And.intro hk (And.intro he hx))
              clear hk hx he
              go_simp
              exact HK.out
            · intro Lq wq xq hh
              have d15 : Ergc 15 (xq 15) wq := hh.val 15 (by kernel_rfl) (by kernel_rfl)
              rw [Hrgce15.out] at d15
              simp only [hFrgc, d15]
              clear d15
              refine .inl ⟨rfl, ?_⟩
              unfold Reg.upon
              have hk := Hrgck.out 22 Lq wq  hh.cls
              have hx := Hrgcx.out wq
              have he : Ergc 22 (.int .i64 (k : Int)) wq := by rw [Hrgce22.out]
              have HK := Lib.hid (And.intro hk (And.intro he hx))
              clear hk hx he
              go_simp
              exact HK.out
            · intro Lq wq xq hh
              have d15 : Ergc 15 (xq 15) wq := hh.val 15 (by kernel_rfl) (by kernel_rfl)
              rw [Hrgce15.out] at d15
              have d21 : Ergc 21 (xq 21) wq := hh.val 21 (by kernel_rfl) (by kernel_rfl)
              rw [Hrgce21.out] at d21
              have d22 : Ergc 22 (xq 22) wq := hh.val 22 (by kernel_rfl) (by kernel_rfl)
              rw [Hrgce22.out] at d22
              simp only [hFrgc, d15, d21, d22]
              clear d15 d21 d22
              refine .inl ⟨rfl, ?_⟩
              unfold Reg.upon
              have hk := Hrgck.out 23 Lq wq  hh.cls
              have hx := Hrgcx.out wq
              have he : Ergc 23 (.pointer (some ⟨bl, ol + k * 2, none⟩)) wq := by rw [Hrgce23.out]
              have HK := Lib.hid (And.intro hk (And.intro he hx))
              clear hk hx he
              go_simp
              exact HK.out
            · intro Lq wq xq hh
              have d15 : Ergc 15 (xq 15) wq := hh.val 15 (by kernel_rfl) (by kernel_rfl)
              rw [Hrgce15.out] at d15
              have d23 : Ergc 23 (xq 23) wq := hh.val 23 (by kernel_rfl) (by kernel_rfl)
              rw [Hrgce23.out] at d23
              simp only [hFrgc, d15, d23]
              clear d15 d23
              refine .inl ⟨rfl, ?_⟩
              unfold Reg.upon
              have hk := Hrgck.out 24 Lq wq  hh.cls
              have hx := Hrgcx.out wq
              have he : Ergc 24 (.pointer (some ⟨bl, ol + k * 2, none⟩)) wq := by rw [Hrgce24.out]
              have HK := Lib.hid (And.intro hk (And.intro he hx))
              clear hk hx he
              go_simp
              exact HK.out
            · intro Lq wq xq hh
              have d15 : Ergc 15 (xq 15) wq := hh.val 15 (by kernel_rfl) (by kernel_rfl)
              rw [Hrgce15.out] at d15
              have d24 : Ergc 24 (xq 24) wq := hh.val 24 (by kernel_rfl) (by kernel_rfl)
              rw [Hrgce24.out] at d24
              simp only [hFrgc, d15, d24]
              clear d15 d24
              refine .inl ⟨rfl, ?_⟩
              unfold Reg.upon
              have hc : Crgc Lq wq := hh.cls
              rw [HrgchC.out] at hc
              have q6 := ((HBA.out.trans (hc.mono HBA.out.size)).cell (p := ⟨bl, ol + k * 2, none⟩) HBM.out.2.1).trans HL0.out
              clear hc
              have hk := Hrgck.out 25 Lq wq  hh.cls
              have hx := Hrgcx.out wq
              have he : Ergc 25 (.slice al wd xl) wq := by rw [Hrgce25.out]
              have HK := Lib.hid (And.intro hk (And.intro he hx))
              clear hk hx he
              go_simp
              exact HK.out
            · intro Lq wq xq hh
              have d15 : Ergc 15 (xq 15) wq := hh.val 15 (by kernel_rfl) (by kernel_rfl)
              rw [Hrgce15.out] at d15
              have d25 : Ergc 25 (xq 25) wq := hh.val 25 (by kernel_rfl) (by kernel_rfl)
              rw [Hrgce25.out] at d25
              simp only [hFrgc, d15, d25]
              clear d15 d25
              refine .inl ⟨rfl, ?_⟩
              unfold Reg.upon
              have hk := Hrgck.out 26 Lq wq  hh.cls
              have hx := Hrgcx.out wq
              have he : Ergc 26 (.int .i64 (wd : Int)) wq := by rw [Hrgce26.out]
              have HK := Lib.hid (And.intro hk (And.intro he hx))
              clear hk hx he
              go_simp
              exact HK.out
            · intro Lq wq xq hh
              have d15 : Ergc 15 (xq 15) wq := hh.val 15 (by kernel_rfl) (by kernel_rfl)
              rw [Hrgce15.out] at d15
              have d26 : Ergc 26 (xq 26) wq := hh.val 26 (by kernel_rfl) (by kernel_rfl)
              rw [Hrgce26.out] at d26
              simp only [hFrgc, d15, d26]
              clear d15 d26
              refine .inl ⟨rfl, ?_⟩
              unfold Reg.upon
              have hc9 : Crgc Lq wq := hh.cls
              rw [HrgchC.out] at hc9
              refine upon_make rfl wq.heap.size 27 i0 (.agg #[.int .i64 0, .slice none 0 0]) 2 Tryd.underlying22 HI.out.1 HI.out.2.1 HI.out.2.2.1 .i64 .i64 wd rfl rfl (by rw [HI.out.2.2.2]; omega) (by unfold maxLen; omega) (Nat.le_refl _) ?_
              intro w9 r1 r2
              have hb9 : Below wq.heap.size wq w9 := (Below.refl _ _).grown r2 (Nat.le_refl _) (by intro k hk; cases hk)
              refine ⟨Hrgck.out 27 Lq w9 (Hrgcb.out Lq wq w9 hh.cls hb9), ?_, Hrgcxb.out wq w9 hb9⟩
              rw [Hrgce27.out]
              exact (blank_held r1).zone (fun _ _ _ => trivial)
            · intro Lq wq xq hh
              have d15 : Ergc 15 (xq 15) wq := hh.val 15 (by kernel_rfl) (by kernel_rfl)
              rw [Hrgce15.out] at d15
              have d20 : Ergc 20 (xq 20) wq := hh.val 20 (by kernel_rfl) (by kernel_rfl)
              rw [Hrgce20.out] at d20
              have d27 : Ergc 27 (xq 27) wq := hh.val 27 (by kernel_rfl) (by kernel_rfl)
              rw [Hrgce27.out] at d27
              simp only [hFrgc, d15, d20]
              clear d15 d20
              refine .inl ⟨rfl, ?_⟩
              unfold Reg.upon
              have hc : Crgc Lq wq := hh.cls
              rw [HrgchC.out] at hc
              go_simp
              refine (rcsame_any _ _ _ _ _ _ wq (HM.out.below (HB.out.trans ((HBA.out.trans (hc.mono HBA.out.size)).mono HB.out.size))) d27).mono ?_
              rintro e w2 ⟨rfl, hb⟩
              refine ⟨_, rfl, Hrgck.out 28 Lq w2 (Hrgcb.out Lq wq w2 hh.cls hb), ?_, Hrgcxb.out wq w2 hb⟩
              rw [Hrgce28.out, sameC_self]
            · intro Lq wq xq hh
              have d15 : Ergc 15 (xq 15) wq := hh.val 15 (by kernel_rfl) (by kernel_rfl)
              rw [Hrgce15.out] at d15
              have d28 : Ergc 28 (xq 28) wq := hh.val 28 (by kernel_rfl) (by kernel_rfl)
              rw [Hrgce28.out] at d28
              simp only [hFrgc, d15, d28]
              clear d15 d28
              refine .inl ⟨rfl, ?_⟩
              unfold Reg.upon
              have hk := Hrgck.out 29 Lq wq  hh.cls
              have hx := Hrgcx.out wq
              have he : Ergc 29 (.bool false) wq := by rw [Hrgce29.out]
              have HK := Lib.hid (And.intro hk (And.intro he hx))
              clear hk hx he
              go_simp
              exact HK.out
            · intro Lq wq xq hh
              have d9 : Ergc 9 (xq 9) wq := hh.val 9 (by kernel_rfl) (by kernel_rfl)
              rw [Hrgce9.out] at d9
              have d15 : Ergc 15 (xq 15) wq := hh.val 15 (by kernel_rfl) (by kernel_rfl)
              rw [Hrgce15.out] at d15
              have d29 : Ergc 29 (xq 29) wq := hh.val 29 (by kernel_rfl) (by kernel_rfl)
              rw [Hrgce29.out] at d29
              simp only [hFrgc, d9, d15, d29]
              clear d9 d15 d29
              refine .inl ⟨rfl, ?_⟩
              unfold Reg.upon
              have hk := Hrgck.out 30 Lq wq  hh.cls
              have hx := Hrgcx.out wq
              have he : Ergc 30 (.bool false) wq := by rw [Hrgce30.out]
              have HK := Lib.hid (And.intro hk (And.intro he hx))
              clear hk hx he
              go_simp
              exact HK.out
            · intro Lq wq xq hh
              have d9 : Ergc 9 (xq 9) wq := hh.val 9 (by kernel_rfl) (by kernel_rfl)
              rw [Hrgce9.out] at d9
              have d30 : Ergc 30 (xq 30) wq := hh.val 30 (by kernel_rfl) (by kernel_rfl)
              rw [Hrgce30.out] at d30
              simp only [hFrgc, d9, d30]
              clear d9 d30
              refine .inl ⟨rfl, ?_⟩
              unfold Reg.upon
              have hk := Hrgck.out 31 Lq wq  hh.cls
              have hx := Hrgcx.out wq
              have he : Ergc 31 (.bool false) wq := by rw [Hrgce31.out]
              have HK := Lib.hid (And.intro hk (And.intro he hx))
              clear hk hx he
              go_simp
              exact HK.out
          intro xq wrgc hcrgc hvrgc
          rw [HrgchC.out] at hcrgc
          simp only [hFrgc]
          have vrgc31 : Ergc 31 (xq 31) wrgc := hvrgc 31 (by decide)
          rw [Hrgce31.out] at vrgc31
          rw [vrgc31]
          clear hvrgc hFrgc Hrgck Hrgcx Hrgcst Hrgcc HrgchC HrgchX Hrgcb Hrgcxb Hrgce0 Hrgce1 Hrgce2 Hrgce3 Hrgce4 Hrgce5 Hrgce6 Hrgce7 Hrgce8 Hrgce9 Hrgce10 Hrgce11 Hrgce12 Hrgce13 Hrgce14 Hrgce15 Hrgce16 Hrgce17 Hrgce18 Hrgce19 Hrgce20 Hrgce21 Hrgce22 Hrgce23 Hrgce24 Hrgce25 Hrgce26 Hrgce27 Hrgce28 Hrgce29 Hrgce30 Hrgce31
          have HE := Lib.hid (HB.out.trans ((HBA.out.trans (hcrgc.mono HBA.out.size)).mono HB.out.size))
          clear hcrgc
          go_wp2
          go_roundw
          case rel => exact ⟨k + 1, by omega, by go_num, HE.out⟩
          case measure => simp [intOf]; omega
        · have hge : decide ((t : Int) - f ≤ R) = false := by rw [decide_eq_false_iff_not]; exact hR1
          clear hR1 m0 m1 l0 HIK
          go_upto_region 14 with (fail)
          refine wp_region_ext (by kernel_rfl) (by kernel_rfl) ?_
          repeat (go_big_quiet_step ((fail)))
          refine wpQuiet_nil ?_
          intro _ hw'
          obtain ⟨u, hw''⟩ := hw'
          subst hw''
          obtain ⟨wA, hwA⟩ : ∃ wA, wA = ext wk u := ⟨_, rfl⟩
          have bA : Below wk.heap.size wk wA := by rw [hwA]; exact u.ok
          rw [← hwA]
          have HBA := Lib.hid (HB.out.trans (bA.mono HB.out.size))
          have a3 := ext_cell ((bA.cell (p := ⟨gb, 3, none⟩) (Nat.lt_of_lt_of_le HH9.out.lt HB.out.size)).trans a3)
          clear bA hwA
          go_upto_region 16 with (fail)
          refine wp_region_ext (by kernel_rfl) (by kernel_rfl) ?_
          repeat (go_big_quiet_step ((fail)))
          refine wpQuiet_nil ?_
          intro _ hw'
          obtain ⟨u, hw''⟩ := hw'
          subst hw''
          have HE := Lib.hid (ext_below HBA.out u)
          go_wp2
          go_roundw
          case rel => exact ⟨k + 1, by omega, by go_num, HE.out⟩
          case measure => simp [intOf]; omega
      · have ho := HOUT.out k hlt hin
        rw [ho] at hm
        obtain ⟨al, xl, rfl⟩ := hl.len
        obtain ⟨am, xm, rfl⟩ := hm.len
        have HM := Lib.hid (hm.below HB.out)
        have HL := Lib.hid (hl.below HB.out)
        obtain ⟨T, hT⟩ : ∃ T, T = (Ls.getD k zl).1 := ⟨_, rfl⟩
        rw [← hT] at HM HL m0 l0
        obtain ⟨tl, htl⟩ : ∃ tl, tl = T.length := ⟨_, rfl⟩
        rw [← htl] at HM HL m0 l0
        have HQ := Lib.hid (fun u : Growth wk => rcsame_any _ _ _ _ T T (ext wk u) (HM.out.below u.ok) (HL.out.below u.ok))
        rw [sameC_self] at HQ
        have m0 := ext_cell m0
        have l0 := ext_cell l0
        have hio : (decide ((f : Int) ≤ k) = false ∧ decide (f ≤ k) = false) ∨ ((decide ((f : Int) ≤ k) = true ∧ decide (f ≤ k) = true) ∧ decide ((k : Int) < t) = false ∧ decide (k < t) = false) := by
          by_cases h9 : f ≤ k
          · exact .inr ⟨⟨by rw [decide_eq_true_eq]; omega, by rw [decide_eq_true_eq]; omega⟩, by rw [decide_eq_false_iff_not]; omega, by rw [decide_eq_false_iff_not]; omega⟩
          · exact .inl ⟨by rw [decide_eq_false_iff_not]; omega, by rw [decide_eq_false_iff_not]; omega⟩
        clear hin ho hm hl hT htl m1 hwd
        rcases hio with ⟨t1, t1n⟩ | ⟨⟨t1, t1n⟩, t2, t2n⟩
        all_goals
          go_upto_region 14 with (fail)
          refine wp_region_ext (by kernel_rfl) (by kernel_rfl) ?_
          repeat (go_big_quiet_step (((go_at_call 17; exact callx (HQ.out _)))))
          refine wpQuiet_nil ?_
          intro _ hw'
          obtain ⟨u, hw''⟩ := hw'
          subst hw''
          obtain ⟨wA, hwA⟩ : ∃ wA, wA = ext wk u := ⟨_, rfl⟩
          have bA : Below wk.heap.size wk wA := by rw [hwA]; exact u.ok
          rw [← hwA]
          have HBA := Lib.hid (HB.out.trans (bA.mono HB.out.size))
          clear bA hwA
          go_upto_region 16 with (fail)
          refine wp_region_ext (by kernel_rfl) (by kernel_rfl) ?_
          repeat (go_big_quiet_step ((fail)))
          refine wpQuiet_nil ?_
          intro _ hw'
          obtain ⟨u, hw''⟩ := hw'
          subst hw''
          have HE := Lib.hid (ext_below HBA.out u)
          go_wp2
          go_roundw
          case rel => exact ⟨k + 1, by omega, by go_num, HE.out⟩
          case measure => simp [intOf]; omega
    · obtain rfl : k = n := by omega
      have HE := Lib.hid (HBW.out.trans (HB.out.mono HBW.out.size))
      go_wp2
      go_ret
      exact ⟨(ret_eq (by first | rfl | (simp <;> omega))), HE.out⟩
set_option maxRecDepth 100000 in
set_option maxHeartbeats 16000000 in
theorem walkH (W : World) (va : Value) (Ls : List Ln) (D : Bool) (P Q R : Int) (Z : Zone) (ha : HeldE lineE Z W va Ls) : Calls Tryd.prog 5 #[va, .agg #[.bool D, .int .i64 P, .int .i64 Q, .int .i64 R]] W (Yes W) := by
  have hla := ha.max
  have ha := ha.lower
  obtain ⟨ao, ca, rfl⟩ := ha.len
  obtain ⟨n, hn⟩ : ∃ n, n = Ls.length := ⟨_, rfl⟩
  have HN := Lib.hid hn
  rw [← hn] at ha hla ⊢
  have HA := Lib.hid ha
  have HWR := Lib.hid (show ∀ w', Below W.heap.size W w' → Calls Tryd.prog 18 #[.slice ao n ca] w' (WrongTold w' Ls) from fun w' h => rlwrong_any _ _ Ls w' (HA.out.below h))
  clear ha hn
  by_cases h1 : 40 < n
  · have hd : decide ((40 : Int) < n) = true := by rw [decide_eq_true_eq]; omega
    go_enter Tryd.func5, Tryd.ntmps5
    go_wp2_with fail
    refine (HWR.out _ ((Below.refl _ W).alloc (Nat.le_refl _) _)).mono ?_
    rintro e w0 hq
    obtain ⟨at_, cc, rfl, hat, b0⟩ := hq.say
    clear hq
    have b0 : Below W.heap.size W w0 := ((Below.refl W.heap.size W).alloc (Nat.le_refl _) _).trans (b0.mono (by simp))
    go_wp2_with fail
    refine (works33_any _).mono ?_
    rintro e w1 ⟨rfl, b1⟩
    have B := b0.trans (b1.mono b0.size)
    go_wp2_with fail
    refine (works33_any _).mono ?_
    rintro e w2 ⟨rfl, b2⟩
    have B := B.trans (b2.mono B.size)
    go_wp2
    go_ret
    exact ⟨(ret_eq (by first | rfl | (simp <;> omega))), B⟩

  have hd40 : decide ((40 : Int) < n) = false := by rw [decide_eq_false_iff_not]; omega
  have hd40n : decide (40 < n) = false := by rw [decide_eq_false_iff_not]; omega
  by_cases h0 : n = 0
  · have hz : ((n : Int) == 0) = true := by rw [beq_iff_eq]; omega
    clear h0
    go_enter Tryd.func5, Tryd.ntmps5
    go_wp2_with fail
    refine (HWR.out _ ((Below.refl _ W).alloc (Nat.le_refl _) _)).mono ?_
    rintro e w0 hq
    obtain ⟨at_, cc, rfl, hat, b0⟩ := hq.say
    clear hq
    have b0 : Below W.heap.size W w0 := ((Below.refl W.heap.size W).alloc (Nat.le_refl _) _).trans (b0.mono (by simp))
    go_wp2_with fail
    refine (works33_any _).mono ?_
    rintro e w1 ⟨rfl, b1⟩
    have B := b0.trans (b1.mono b0.size)
    go_wp2_with fail
    refine (works33_any _).mono ?_
    rintro e w2 ⟨rfl, b2⟩
    have B := B.trans (b2.mono B.size)
    go_wp2
    go_ret
    exact ⟨(ret_eq (by first | rfl | (simp <;> omega))), B⟩

  have hz : ((n : Int) == 0) = false := by rw [beq_eq_false_iff_ne]; omega
  by_cases hall : AllGood Ls
  rotate_left
  · have HALL := Lib.hid hall
    go_enter Tryd.func5, Tryd.ntmps5
    go_wp2_with fail
    refine (HWR.out _ ((Below.refl _ W).alloc (Nat.le_refl _) _)).mono ?_
    rintro e w0 hq
    obtain ⟨at_, cc, rfl, hat, b0⟩ := hq.say
    have hge : decide ((0 : Int) ≤ at_) = true := by rw [decide_eq_true_eq]; rcases hat with h | h; exact absurd h.1 HALL.out; exact h.1
    clear hq
    have b0 : Below W.heap.size W w0 := ((Below.refl W.heap.size W).alloc (Nat.le_refl _) _).trans (b0.mono (by simp))
    go_wp2_with fail
    refine (works33_any _).mono ?_
    rintro e w1 ⟨rfl, b1⟩
    have B := b0.trans (b1.mono b0.size)
    go_wp2_with fail
    refine (works33_any _).mono ?_
    rintro e w2 ⟨rfl, b2⟩
    have B := B.trans (b2.mono B.size)
    go_wp2
    go_ret
    exact ⟨(ret_eq (by first | rfl | (simp <;> omega))), B⟩

  exact mainW W ao n ca Ls D P Q R HN.out HA.out (by omega) (by omega) hall
set_option maxRecDepth 100000 in
theorem walk {H : Type} {enc : TypeId × Value → H} (W : World) (u : Value) {base : Nat} {d : DataW H} {p : List MemPlace} (hv : Value.okWide Tryd.prog W .any base 37 u) (h : DataW.Trod enc Tryd.prog W 0 (fun _ => true) true 37 u d p) (v : Value) {base' : Nat} {d' : DataW H} {p' : List MemPlace} (hv' : Value.okWide Tryd.prog W .any base' 45 v) (h' : DataW.Trod enc Tryd.prog W 0 (fun _ => true) true 45 v d' p') (_ : laidMetH Tryd.prog Rows.scrollFarRow.laid W) : Calls Tryd.prog 5 #[u, v] W (Yes W) := by
  obtain ⟨L, hL2⟩ := lines_arg hv h
  have hE := opens_four (P := Tryd.prog) Tryd.underlying45 (by kernel_rfl) rfl rfl rfl rfl (opens_bool Tryd.underlying4 (by kernel_rfl)) (opens_int (k := .i64) Tryd.underlying3 (by kernel_rfl)) (opens_int (k := .i64) Tryd.underlying3 (by kernel_rfl)) (opens_int (k := .i64) Tryd.underlying3 (by kernel_rfl))
  obtain ⟨cs, ⟨D, P, Q, R⟩, rfl, ⟨C1, C2, hcs, rfl, C3, C4, rfl, rfl, C5, C6, rfl, rfl, rfl⟩, _⟩ := opens_struct Tryd.underlying45 hE hv' h'
  obtain rfl : cs = #[.bool D, .int .i64 P, .int .i64 Q, .int .i64 R] := by
    apply Array.toList_inj.1
    rw [hcs]
    rfl
  exact walkH W u L D P Q R _ hL2

theorem door_met (os : Os) : laidMetH Tryd.prog Rows.scrollFarRow.laid ((World.doorLaid Tryd.prog 400 os).forCall (fun _ _ => 0) ⟨#[], #[.slice none 0 0, .agg #[.bool false, .int .i64 0, .int .i64 0, .int .i64 0]], []⟩).memory :=
  laidMetH_of_parts3 (fuel := 8) (laidMet_of_run' 8 (by kernel_rfl) (by kernel_rfl)) (by kernel_rfl) (by kernel_rfl)

set_option maxRecDepth 100000 in
theorem lifted (os : Os) (started : os.Started) (H : Type) (enc : TypeId × Value → H) :
    ReturnsInHanded {} Tryd.checked os 5 .any (fun w args => (Rows.scrollFarSpec.pre enc Tryd.prog Tryd.f5 [] false w args ∧ laidMetH Tryd.prog Rows.scrollFarRow.laid w) ∧ sizedMet enc Tryd.prog Tryd.f5 (OpenSpec.ofChange Rows.scrollFarSpec) false w args)
      (Rows.scrollFarSpec.post enc Tryd.prog Tryd.f5 false true false false) := by
  refine law_frame (C := Tryd.checked) (tb := 4) (by kernel_rfl) started (by kernel_rfl) Tryd.func5 (by kernel_rfl) (by kernel_rfl) Tryd.underlying4 rfl
    (by rw [Tryd.params5]; intro t ht; simp at ht; rcases ht with rfl | rfl <;> exact ⟨by kernel_rfl, of_decide_eq_true (by kernel_rfl)⟩)
    (by rw [Tryd.params5]; intro ds hd; match ds, hd with | [_, _], _ => rfl)
    (ChangeSpec.witness_shaped (enc := enc) (C := Tryd.checked) (os := os) (X := fun w _ => laidMetH Tryd.prog Rows.scrollFarRow.laid w) false (World.doorLaid Tryd.prog 400 os) #[.slice none 0 0, .agg #[.bool false, .int .i64 0, .int .i64 0, .int .i64 0]] 8 rfl (World.shaped_of_RefB (by kernel_rfl) (by kernel_rfl)) (by kernel_rfl) (by kernel_rfl) (by kernel_rfl) (door_met os)) ?_
  intro W base args ds before hval hA hsz hL
  rw [Tryd.params5] at hA hval
  obtain ⟨v0, vs0, d0, ds0, p0, q0, hargs, rfl, rfl, h0, r0⟩ := trodAll_cons hA
  obtain ⟨v1, vs1, d1, ds1, p1, q1, rfl, rfl, rfl, h1, r1⟩ := trodAll_cons r0
  obtain ⟨rfl, rfl, rfl⟩ := trodAll_nil r1
  obtain rfl : args = #[v0, v1] := by cases args; simp_all

  exact walk W v0 (hval 0 37 v0 rfl rfl) h0 v1 (hval 1 45 v1 rfl rfl) h1 hL

theorem said : Rows.ScrollFarSaid :=
  OpenClaim.holds_of_wide 5 Tryd.f5 rfl rfl rfl rfl rfl rfl rfl ⟨rfl, rfl, rfl, rfl, rfl⟩ rfl rfl rfl rfl rfl (by kernel_rfl) Tryd.func5 (by kernel_rfl)
    (of_decide_eq_true (by kernel_rfl)) (by unfold Func.isWrapper; first | (rw [if_pos (by decide +kernel)]; kernel_rfl) | (rw [if_neg (by decide +kernel)]; exact ⟨rfl, rfl⟩))
    (fun os started H enc _ => lifted os started H enc)

theorem plain (f : FuncId) (fn : Func) (hf : Tryd.pinned.checked.prog.funcNamed "linotype/linotypelaw33.ScrollFar" = some f) (hfn : Tryd.pinned.checked.prog.funcs[f]? = some fn) :
    true = Tryd.pinned.checked.prog.looks [] ∧ ∀ (j : Nat) t, fn.params[j]? = some t → Tryd.pinned.checked.prog.wantsStandIn t = false := by
  obtain rfl : f = 5 := Option.some.inj ((show Tryd.prog.funcNamed "linotype/linotypelaw33.ScrollFar" = some 5 by kernel_rfl).symm.trans hf) |>.symm
  obtain rfl : fn = Tryd.f5 := (Option.some.inj (Tryd.func5.symm.trans hfn)).symm
  refine ⟨by kernel_rfl, fun j t ht => ?_⟩
  rw [Tryd.params5] at ht
  have hm : t ∈ [37, 45] := by simpa using Array.mem_of_getElem? ht
  have hall : ([37, 45].all fun u => !Tryd.prog.wantsStandIn u) = true := by kernel_rfl
  exact (show Tryd.prog.wantsStandIn t = false by simpa using List.all_eq_true.1 hall t hm)

/-- THE CARD. -/
theorem card : Rows.ScrollFarCardSaid :=
  Claim7.holds_tied_plain_at .later [] _ _ _ _ said (fun _ h => by cases h) (by kernel_rfl) (fun _ h => by cases h) scrollFar_row_tie rfl ⟨rfl, rfl⟩ (by kernel_rfl) rfl plain (by kernel_rfl)
#print axioms card

end Go.Proofs.YteolfknlcnihaaaDoor.lawScrollFar
