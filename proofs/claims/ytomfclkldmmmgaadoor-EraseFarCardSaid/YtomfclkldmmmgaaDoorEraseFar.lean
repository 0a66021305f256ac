/- EraseFar (26.2) answers true at every sound row and both numbers, and turns nothing. -/
import Derived.Test.YtomfclkldmmmgaaDoorEraW
import Derived.Test.YtomfclkldmmmgaaDoorCellU
import Derived.Test.YtomfclkldmmmgaaDoorCellS
import Derived.Test.YtomfclkldmmmgaaDoorErrS
import Derived.Test.YtomfclkldmmmgaaDoorCards
import Derived.Test.YtomfclkldmmmgaaDoorTie
import Derived.ProofKit
import Derived.Lib.MinMax
import Derived.Deep.Cut
namespace Go.Proofs.YtomfclkldmmmgaaDoor.lawEraseFar
open Go.ChangeShapes Go.WideShapes Go.ChangeAt Go.RowKit
theorem era_far (L : List Cl) (f t : Int) : ∃ F T : Nat, max 0 (min f (L.length : Int)) = F ∧ max 0 (min t (L.length : Int)) = T ∧ F ≤ L.length ∧ T ≤ L.length ∧ ∀ i, i < L.length →
    (F < T → F ≤ i → i < T → ((eraL L f t).getD i zc).1 = 0) ∧ (T ≤ F ∨ i + 1 < F ∨ T < i → (eraL L f t).getD i zc = L.getD i zc) := by
  refine ⟨(max 0 (min f (L.length : Int))).toNat, (max 0 (min t (L.length : Int))).toNat, by omega, by omega, by omega, by omega, fun i hi => ?_⟩
  by_cases hc : max f 0 < min t L.length
  · obtain ⟨a, q, m, e1, e2, hq, hm, hle, e3, _⟩ := era_parts hc
    have eF : (max 0 (min f (L.length : Int))).toNat = a := by omega
    have eT : (max 0 (min t (L.length : Int))).toNat = q := by omega
    rw [eF, eT, e3, paint_get _ _ _ _ hi]
    unfold paintAt
    rw [List.length_replicate]
    refine ⟨fun _ h2 h3 => ?_, fun h => ?_⟩
    · rw [if_pos (show inP a m i by unfold inP; omega)]
      have : (List.replicate m zc).getD (i - a) zc = zc := by
        simp only [List.getD, List.getElem?_replicate]
        split <;> rfl
      rw [this]
    · have hn : ¬ inP a m i := by unfold inP; omega
      have hnt : ¬ tornP L a m i := by unfold tornP inP; omega
      rw [if_neg hn, if_neg hnt]
  · obtain ⟨e3, _⟩ := era_not hc
    rw [e3]
    exact ⟨fun h1 _ _ => by omega, fun _ => rfl⟩
theorem info_cell2 : (Tryd.prog.info? 27).map (·.size) = some 2 := by kernel_rfl
set_option maxRecDepth 100000 in
set_option maxHeartbeats 8000000 in
theorem walkH (W : World) (va : Value) (L : List Cl) (Z : Zone) (ha : HeldE cellE Z W va L) (f t : Int) : Calls Tryd.prog 7 #[va, .int .i64 f, .int .i64 t] W (Yes W) := by
  have hla := ha.max
  have ha := ha.lower
  obtain ⟨ao, ca, rfl⟩ := ha.len
  obtain ⟨_, hca, hca2, hao, _⟩ := id ha
  have HA := Lib.hid ha
  clear ha
  by_cases h1 : 100 < L.length
  · go_enter Tryd.func7, Tryd.ntmps7
    go_wp2_with fail
    refine (works26_any _).mono ?_
    rintro e w1 ⟨rfl, b1⟩
    go_wp2_with fail
    refine (works26_any _).mono ?_
    rintro e w2 ⟨rfl, b2⟩
    have b2 := b1.trans (b2.mono b1.size)
    go_wp2
    go_ret
    exact ⟨(ret_eq (by first | rfl | (simp <;> omega))), b2⟩
  have hd60 : decide ((100 : Int) < L.length) = false := by simp; omega
  by_cases h0 : L.length = 0
  · have hz : ((L.length : Int) == 0) = true := by rw [beq_iff_eq]; omega
    go_enter Tryd.func7, Tryd.ntmps7
    go_wp2_with fail
    refine (works26_any _).mono ?_
    rintro e w1 ⟨rfl, b1⟩
    go_wp2_with fail
    refine (works26_any _).mono ?_
    rintro e w2 ⟨rfl, b2⟩
    have b2 := b1.trans (b2.mono b1.size)
    go_wp2
    go_ret
    exact ⟨(ret_eq (by first | rfl | (simp <;> omega))), b2⟩
  have hz : ((L.length : Int) == 0) = false := by rw [beq_eq_false_iff_ne]; omega
  by_cases hs : soundB L = false
  · go_enter Tryd.func7, Tryd.ntmps7
    go_wp2_with fail
    refine (works26_any _).mono ?_
    rintro e w1 ⟨rfl, b1⟩
    have hse := rsound_any _ _ _ _ (HA.out.below b1)
    rw [← sound_iff, hs] at hse
    go_wp2_with fail
    refine hse.mono ?_
    rintro e w2 ⟨rfl, b2⟩
    have b2 := b1.trans (b2.mono b1.size)
    go_wp2_with fail
    refine (works26_any _).mono ?_
    rintro e w3 ⟨rfl, b3⟩
    have b3 := b2.trans (b3.mono b2.size)
    go_wp2
    go_ret
    exact ⟨(ret_eq (by first | rfl | (simp <;> omega))), b3⟩
  have hs : soundB L = true := by simpa using hs
  obtain ⟨ad, rfl⟩ : ∃ ad, ao = some ad := by
    cases ao with
    | none => exact absurd (by rw [(HA.out.nilL).1]; rfl) h0
    | some ad => exact ⟨ad, rfl⟩
  obtain ⟨b, off, had⟩ : ∃ b off, ad = ⟨b, off, none⟩ := by
    obtain ⟨_, _, h⟩ := HA.out.spots
    obtain ⟨b, off, e, _⟩ := h 0 (by omega)
    cases e
    exact ⟨b, off, rfl⟩
  subst had
  obtain ⟨F, T, hF, hT, hFl, hTl, hfar⟩ := era_far L f t
  have HFAR := Lib.hid hfar
  have HEL := Lib.hid (era_len L f t)
  have HS := Lib.hid hs
  have HLL := Lib.hid (show 0 < L.length ∧ L.length ≤ 100 by omega)
  clear hfar
  go_enter Tryd.func7, Tryd.ntmps7
  go_wp2_with fail
  refine (works26_any _).mono ?_
  rintro e w1 ⟨rfl, b1⟩
  have hse := rsound_any _ _ _ _ (HA.out.below b1)
  rw [← sound_iff, hs] at hse
  clear hs
  go_wp2_with fail
  refine hse.mono ?_
  rintro e w2 ⟨rfl, b2⟩
  have B := Lib.hid (b1.trans (b2.mono b1.size))
  clear b1 b2 hse
  have HP := Lib.hid (rof_ok _ _ _ _ (HA.out.below B.out) HLL.out.1 (by have := HLL.out; omega) HS.out)
  go_wp2_with fail
  clear hd60 hz h1 h0
  refine HP.out.mono ?_
  rintro e w3 ⟨g, gc, rfl, hr3, b3⟩
  have hr3 := hr3.keep (.refl _ _) (Y := fun _ => True) (fun _ _ _ => trivial)
  have hlt := hr3.lt
  have HLT := Lib.hid (show W.heap.size ≤ g ∧ W.heap.size ≤ gc from by have := B.out.size; omega)
  replace B := Lib.hid (B.out.trans (b3.mono B.out.size))
  have HE := Lib.hid (erange_any _ g gc L false f t w3 hr3)
  clear hr3 b3 hlt HP
  go_wp2_with fail
  refine HE.out.mono ?_
  rintro e w4 ⟨rfl, hr4, u4⟩
  have R := Lib.hid hr4
  replace B := Lib.hid (B.out.upd u4 B.out.size (fun x e => by have := HLT.out; rcases e with e | e <;> omega))
  clear hr4 u4 HE
  obtain ⟨E, hE⟩ : ∃ E, E = eraL L f t := ⟨_, rfl⟩
  obtain ⟨q, hq⟩ : ∃ q, q = eraW L false f t := ⟨_, rfl⟩
  rw [← hE] at HFAR HEL R
  rw [← hq] at R
  clear hE hq
  have hl100 : L.length ≤ 100 := HLL.out.2
  go_wp2
  clear hF hT
  go_loopw [9] (fun iv wr => ∃ k : Nat, k ≤ L.length ∧ iv = .int .i64 k ∧ RowAt (fun _ => True) wr w2.heap.size g gc E q ∧ Below W.heap.size W wr) (fun iv _ => L.length - (intOf iv).toNat)
  case atStart => exact ⟨0, Nat.zero_le _, rfl, R.out, B.out⟩
  case round =>
    obtain ⟨k, hk, rfl, hr, hbw⟩ := hrel
    replace R := Lib.hid hr
    replace B := Lib.hid hbw
    clear hr hbw
    by_cases hlt : k < L.length
    · have hKE : k < E.length := by rw [HEL.out]; exact hlt
      obtain ⟨hf1, hf2⟩ := HFAR.out k hlt
      have HC := Lib.hid (rcell_in _ _ g gc _ _ k wr R.out hKE)
      have HLK := Lib.hid (fun (w' : World) (h : Below W.heap.size W w') => show HeldE cellE (fun b => b < W.heap.size) w' (.slice (some ⟨b, off + k * 2, none⟩) 1 (ca - k)) [L.getD k zc] from by
        have hp := (HA.out.below h).part k (k + 1) (by omega) (by omega) (some ⟨b, off + k * 2, none⟩) (ca - k) (fun e => by cases e) (fun b' off' e _ => by cases e; rfl) (fun _ _ => by simp) (by omega) (by omega)
        rw [show k + 1 - k = 1 by omega] at hp
        rw [show (L.drop k).take 1 = [L.getD k zc] from by rw [List.take_one, List.head?_drop, List.getD, List.getElem?_eq_getElem hlt]; rfl] at hp
        exact hp)
      generalize E.getD k zc = c at HC hf1 hf2
      generalize L.getD k zc = c2 at HLK hf2
      obtain ⟨K, X⟩ := c
      simp only at hf1
      have hk100 : k < 100 := by omega
      have hkk1 : IntKind.i64.wrap ((k : Int) + 1) = (k : Int) + 1 := by rw [IntKind.wrap_i64]; omega
      have hcak : k + 1 ≤ ca := by omega
      have hz1 : (0 : Int) ≤ (k : Int) + 1 := by omega
      have hz2 : (k : Int) + 1 ≤ (ca : Int) := by omega
      have hz3 : ¬ (ca = k) := by omega
      clear hKE
      by_cases hA : T ≤ F
      · have d1 : decide ((F : Int) < T) = false := by simp; omega
        have d2 : decide ((T : Int) ≤ F) = true := by simp; omega
        have hSame : c2 = (K, X) := (hf2 (.inl hA)).symm
        clear hf1 hf2
        have HC2 := HC
        clear HC
        go_wp2_with fail
        refine HC2.out.mono ?_
        rintro e w5 ⟨tv, rfl, h5, b5⟩
        obtain ⟨ta, tc, rfl⟩ := h5.len
        go_upto_region 14 with (fail)
        obtain ⟨W6, hW6⟩ : ∃ W6, W6 = w5.alloc (.cells #[.int .i64 K, .slice ta X.length tc] 27) := ⟨_, rfl⟩
        have b6 : Below w5.heap.size w5 W6 := by rw [hW6]; exact (Below.refl _ _).alloc (Nat.le_refl _) _
        have hit : Has W6 w5.heap.size [.int .i64 K, .slice ta X.length tc] 27 := by rw [hW6]; exact Has.new w5 _ _
        rw [← hW6]
        have HT6 := Lib.hid (h5.below b6)
        have HIT := Lib.hid hit
        have b56 := b5.trans (b6.mono b5.size)
        have HSZ := Lib.hid hit.lt
        replace R := Lib.hid (R.out.below b56)
        replace B := Lib.hid (B.out.trans (b56.mono B.out.size))
        clear h5 b5 b6 hit hW6 b56 HC2
        obtain ⟨Erg, hErg⟩ : ∃ EE : Nat → Value → World → Prop, EE = fun jj xx ww => match jj with
            | 0 => xx = .int .i64 F
            | 1 => xx = .int .i64 T
            | 2 => xx = .bool true
            | 3 => xx = .bool true
            | 4 => xx = undef
            | 5 => xx = undef
            | 6 => xx = undef
            | 7 => xx = undef
            | 8 => xx = .bool true
            | 9 => xx = .bool true
            | 10 => xx = undef
            | 11 => xx = undef
            | 12 => xx = undef
            | 13 => xx = .bool true
            | 14 => xx = .bool true
            | 15 => xx = .agg #[.int .i64 K, .slice ta X.length tc]
            | 16 => (fun x w' => HeldE cellE (fun _ => True) w' x [(K, X)]) xx ww
            | 17 => xx = .slice (some ⟨b, off, none⟩) L.length ca
            | 18 => xx = .int .i64 k
            | 19 => xx = .int .i64 k
            | 20 => xx = .int .i64 ((k : Int) + 1)
            | 21 => xx = .slice (some ⟨b, off + k * 2, none⟩) 1 (ca - k)
            | 22 => xx = .bool true
            | 23 => xx = .bool false
            | 24 => xx = .bool false
            | _ => True := ⟨_, rfl⟩
        have erg0 : ∀ xx ww, Erg 0 xx ww = (xx = .int .i64 F) := fun xx ww => congrFun (congrFun (congrFun hErg 0) xx) ww
        have erg1 : ∀ xx ww, Erg 1 xx ww = (xx = .int .i64 T) := fun xx ww => congrFun (congrFun (congrFun hErg 1) xx) ww
        have erg2 : ∀ xx ww, Erg 2 xx ww = (xx = .bool true) := fun xx ww => congrFun (congrFun (congrFun hErg 2) xx) ww
        have erg3 : ∀ xx ww, Erg 3 xx ww = (xx = .bool true) := fun xx ww => congrFun (congrFun (congrFun hErg 3) xx) ww
        have erg4 : ∀ xx ww, Erg 4 xx ww = (xx = undef) := fun xx ww => congrFun (congrFun (congrFun hErg 4) xx) ww
        have erg5 : ∀ xx ww, Erg 5 xx ww = (xx = undef) := fun xx ww => congrFun (congrFun (congrFun hErg 5) xx) ww
        have erg6 : ∀ xx ww, Erg 6 xx ww = (xx = undef) := fun xx ww => congrFun (congrFun (congrFun hErg 6) xx) ww
        have erg7 : ∀ xx ww, Erg 7 xx ww = (xx = undef) := fun xx ww => congrFun (congrFun (congrFun hErg 7) xx) ww
        have erg8 : ∀ xx ww, Erg 8 xx ww = (xx = .bool true) := fun xx ww => congrFun (congrFun (congrFun hErg 8) xx) ww
        have erg9 : ∀ xx ww, Erg 9 xx ww = (xx = .bool true) := fun xx ww => congrFun (congrFun (congrFun hErg 9) xx) ww
        have erg10 : ∀ xx ww, Erg 10 xx ww = (xx = undef) := fun xx ww => congrFun (congrFun (congrFun hErg 10) xx) ww
        have erg11 : ∀ xx ww, Erg 11 xx ww = (xx = undef) := fun xx ww => congrFun (congrFun (congrFun hErg 11) xx) ww
        have erg12 : ∀ xx ww, Erg 12 xx ww = (xx = undef) := fun xx ww => congrFun (congrFun (congrFun hErg 12) xx) ww
        have erg13 : ∀ xx ww, Erg 13 xx ww = (xx = .bool true) := fun xx ww => congrFun (congrFun (congrFun hErg 13) xx) ww
        have erg14 : ∀ xx ww, Erg 14 xx ww = (xx = .bool true) := fun xx ww => congrFun (congrFun (congrFun hErg 14) xx) ww
        have erg15 : ∀ xx ww, Erg 15 xx ww = (xx = .agg #[.int .i64 K, .slice ta X.length tc]) := fun xx ww => congrFun (congrFun (congrFun hErg 15) xx) ww
        have erg16 : ∀ xx ww, Erg 16 xx ww = ((fun x w' => HeldE cellE (fun _ => True) w' x [(K, X)]) xx ww) := fun xx ww => congrFun (congrFun (congrFun hErg 16) xx) ww
        have erg17 : ∀ xx ww, Erg 17 xx ww = (xx = .slice (some ⟨b, off, none⟩) L.length ca) := fun xx ww => congrFun (congrFun (congrFun hErg 17) xx) ww
        have erg18 : ∀ xx ww, Erg 18 xx ww = (xx = .int .i64 k) := fun xx ww => congrFun (congrFun (congrFun hErg 18) xx) ww
        have erg19 : ∀ xx ww, Erg 19 xx ww = (xx = .int .i64 k) := fun xx ww => congrFun (congrFun (congrFun hErg 19) xx) ww
        have erg20 : ∀ xx ww, Erg 20 xx ww = (xx = .int .i64 ((k : Int) + 1)) := fun xx ww => congrFun (congrFun (congrFun hErg 20) xx) ww
        have erg21 : ∀ xx ww, Erg 21 xx ww = (xx = .slice (some ⟨b, off + k * 2, none⟩) 1 (ca - k)) := fun xx ww => congrFun (congrFun (congrFun hErg 21) xx) ww
        have erg22 : ∀ xx ww, Erg 22 xx ww = (xx = .bool true) := fun xx ww => congrFun (congrFun (congrFun hErg 22) xx) ww
        have erg23 : ∀ xx ww, Erg 23 xx ww = (xx = .bool false) := fun xx ww => congrFun (congrFun (congrFun hErg 23) xx) ww
        have erg24 : ∀ xx ww, Erg 24 xx ww = (xx = .bool false) := fun xx ww => congrFun (congrFun (congrFun hErg 24) xx) ww
        obtain ⟨Crg, hCrg⟩ : ∃ CC : Array Bool → World → Prop, CC = fun L8 w' => Below W6.heap.size W6 w' := ⟨_, rfl⟩
        have krg : ∀ i L w,  Crg L w → Crg (L.setIfInBounds i true) w := by
          intro i L w  h
          rw [hCrg] at h ⊢
          exact h
        obtain ⟨Xrg, hXrg⟩ : ∃ XX : World → World → Prop, XX = fun x y => Below x.heap.size x y := ⟨_, rfl⟩
        have xrg : ∀ w, Xrg w w := fun w => by rw [hXrg]; exact Below.refl _ _
        have strg : ∀ j x w w1, Xrg w w1 → Erg j x w → Erg j x w1 := by
          intro j x w w1 hx h
          rw [hXrg] at hx
          match j with
          | 0 => rw [erg0] at h ⊢; exact h
          | 1 => rw [erg1] at h ⊢; exact h
          | 2 => rw [erg2] at h ⊢; exact h
          | 3 => rw [erg3] at h ⊢; exact h
          | 4 => rw [erg4] at h ⊢; exact h
          | 5 => rw [erg5] at h ⊢; exact h
          | 6 => rw [erg6] at h ⊢; exact h
          | 7 => rw [erg7] at h ⊢; exact h
          | 8 => rw [erg8] at h ⊢; exact h
          | 9 => rw [erg9] at h ⊢; exact h
          | 10 => rw [erg10] at h ⊢; exact h
          | 11 => rw [erg11] at h ⊢; exact h
          | 12 => rw [erg12] at h ⊢; exact h
          | 13 => rw [erg13] at h ⊢; exact h
          | 14 => rw [erg14] at h ⊢; exact h
          | 15 => rw [erg15] at h ⊢; exact h
          | 16 => rw [erg16] at h ⊢; (exact HeldE.below h hx)
          | 17 => rw [erg17] at h ⊢; exact h
          | 18 => rw [erg18] at h ⊢; exact h
          | 19 => rw [erg19] at h ⊢; exact h
          | 20 => rw [erg20] at h ⊢; exact h
          | 21 => rw [erg21] at h ⊢; exact h
          | 22 => rw [erg22] at h ⊢; exact h
          | 23 => rw [erg23] at h ⊢; exact h
          | 24 => rw [erg24] at h ⊢; exact h
          | j + 25 => rw [hErg]; trivial
        have crg : Crg (Array.replicate 25 false) W6.drew := by rw [hCrg]; exact (Below.refl _ _).drew
        have brg : ∀ L w w1, Crg L w → Below w.heap.size w w1 → Crg L w1 := by
          intro L w w1 h hb
          rw [hCrg] at h ⊢
          exact h.trans (hb.mono h.size)
        have xbrg : ∀ w w1, Below w.heap.size w w1 → Xrg w w1 := by
          intro w w1 hb
          rw [hXrg]
          exact hb
        have Hrgb := Lib.hid brg
        have Hrgxb := Lib.hid xbrg
        clear brg xbrg
        clear hErg
        have Hrgk := Lib.hid krg
        have Hrgx := Lib.hid xrg
        have Hrgst := Lib.hid strg
        have Hrgc := Lib.hid crg
        have HrghC := Lib.hid hCrg
        have HrghX := Lib.hid hXrg
        have Hrge0 := Lib.hid erg0
        have Hrge1 := Lib.hid erg1
        have Hrge2 := Lib.hid erg2
        have Hrge3 := Lib.hid erg3
        have Hrge4 := Lib.hid erg4
        have Hrge5 := Lib.hid erg5
        have Hrge6 := Lib.hid erg6
        have Hrge7 := Lib.hid erg7
        have Hrge8 := Lib.hid erg8
        have Hrge9 := Lib.hid erg9
        have Hrge10 := Lib.hid erg10
        have Hrge11 := Lib.hid erg11
        have Hrge12 := Lib.hid erg12
        have Hrge13 := Lib.hid erg13
        have Hrge14 := Lib.hid erg14
        have Hrge15 := Lib.hid erg15
        have Hrge16 := Lib.hid erg16
        have Hrge17 := Lib.hid erg17
        have Hrge18 := Lib.hid erg18
        have Hrge19 := Lib.hid erg19
        have Hrge20 := Lib.hid erg20
        have Hrge21 := Lib.hid erg21
        have Hrge22 := Lib.hid erg22
        have Hrge23 := Lib.hid erg23
        have Hrge24 := Lib.hid erg24
        clear krg xrg strg crg hCrg hXrg erg0 erg1 erg2 erg3 erg4 erg5 erg6 erg7 erg8 erg9 erg10 erg11 erg12 erg13 erg14 erg15 erg16 erg17 erg18 erg19 erg20 erg21 erg22 erg23 erg24
        go_wp2_with fail
        refine Reg.regionF Erg Crg Xrg Hrgst.out (by kernel_rfl) (by kernel_rfl) (by kernel_rfl) Hrgc.out (fun Frg hFrg => ?_)
        simp only [Reg.frame, Reg.dsts, List.map_cons, List.map_nil, Mix.put_lit, List.set_cons_succ, List.set_cons_zero, Nat.zero_add, Nat.reduceAdd] at hFrg
        refine ⟨?_, ?_⟩
        · refine ⟨?_, ?_, ?_, ?_, ?_, ?_, ?_, ?_, ?_, ?_, ?_, ?_, ?_, ?_, ?_, ?_, ?_, ?_, ?_, ?_, ?_, ?_, ?_, ?_, ?_, trivial⟩
          · intro Lq wq xq hh
            simp only [hFrg]
            refine .inl ⟨rfl, ?_⟩
            unfold Reg.upon
            have hk := Hrgk.out 0 Lq wq  hh.cls
            have hx := Hrgx.out wq
            have he : Erg 0 (.int .i64 F) wq := by rw [Hrge0.out]
            have HK := Lib.hid (And.intro hk (And.intro he hx))
            clear hk hx he
            go_simp
            exact HK.out
          · intro Lq wq xq hh
            simp only [hFrg]
            refine .inl ⟨rfl, ?_⟩
            unfold Reg.upon
            have hk := Hrgk.out 1 Lq wq  hh.cls
            have hx := Hrgx.out wq
            have he : Erg 1 (.int .i64 T) wq := by rw [Hrge1.out]
            have HK := Lib.hid (And.intro hk (And.intro he hx))
            clear hk hx he
            go_simp
            exact HK.out
          · intro Lq wq xq hh
            have d0 : Erg 0 (xq 0) wq := hh.val 0 (by kernel_rfl) (by kernel_rfl)
            rw [Hrge0.out] at d0
            have d1 : Erg 1 (xq 1) wq := hh.val 1 (by kernel_rfl) (by kernel_rfl)
            rw [Hrge1.out] at d1
            simp only [hFrg, d0, d1]
            clear d0 d1
            refine .inl ⟨rfl, ?_⟩
            unfold Reg.upon
            have hk := Hrgk.out 2 Lq wq  hh.cls
            have hx := Hrgx.out wq
            have he : Erg 2 (.bool true) wq := by rw [Hrge2.out]
            have HK := Lib.hid (And.intro hk (And.intro he hx))
            clear hk hx he
            go_simp
            exact HK.out
          · intro Lq wq xq hh
            have d2 : Erg 2 (xq 2) wq := hh.val 2 (by kernel_rfl) (by kernel_rfl)
            rw [Hrge2.out] at d2
            simp only [hFrg, d2]
            clear d2
            refine .inl ⟨rfl, ?_⟩
            unfold Reg.upon
            have hk := Hrgk.out 3 Lq wq  hh.cls
            have hx := Hrgx.out wq
            have he : Erg 3 (.bool true) wq := by rw [Hrge3.out]
            have HK := Lib.hid (And.intro hk (And.intro he hx))
            clear hk hx he
            go_simp
            exact HK.out
          · intro Lq wq xq hh
            have d3 : Erg 3 (xq 3) wq := hh.val 3 (by kernel_rfl) (by kernel_rfl)
            rw [Hrge3.out] at d3
            simp only [hFrg, d3]
            clear d3
            exact .inr ⟨rfl, Hrgk.out 4 Lq wq  hh.cls, (by rw [Hrge4.out])⟩
          · intro Lq wq xq hh
            have d3 : Erg 3 (xq 3) wq := hh.val 3 (by kernel_rfl) (by kernel_rfl)
            rw [Hrge3.out] at d3
            have d4 : Erg 4 (xq 4) wq := hh.val 4 (by kernel_rfl) (by kernel_rfl)
            rw [Hrge4.out] at d4
            simp only [hFrg, d3, d4]
            clear d3 d4
            exact .inr ⟨rfl, Hrgk.out 5 Lq wq  hh.cls, (by rw [Hrge5.out])⟩
          · intro Lq wq xq hh
            have d3 : Erg 3 (xq 3) wq := hh.val 3 (by kernel_rfl) (by kernel_rfl)
            rw [Hrge3.out] at d3
            simp only [hFrg, d3]
            clear d3
            exact .inr ⟨rfl, Hrgk.out 6 Lq wq  hh.cls, (by rw [Hrge6.out])⟩
          · intro Lq wq xq hh
            have d3 : Erg 3 (xq 3) wq := hh.val 3 (by kernel_rfl) (by kernel_rfl)
            rw [Hrge3.out] at d3
            have d5 : Erg 5 (xq 5) wq := hh.val 5 (by kernel_rfl) (by kernel_rfl)
            rw [Hrge5.out] at d5
            have d6 : Erg 6 (xq 6) wq := hh.val 6 (by kernel_rfl) (by kernel_rfl)
            rw [Hrge6.out] at d6
            simp only [hFrg, d3, d5, d6]
            clear d3 d5 d6
            exact .inr ⟨rfl, Hrgk.out 7 Lq wq  hh.cls, (by rw [Hrge7.out])⟩
          · intro Lq wq xq hh
            have d3 : Erg 3 (xq 3) wq := hh.val 3 (by kernel_rfl) (by kernel_rfl)
            rw [Hrge3.out] at d3
            have d7 : Erg 7 (xq 7) wq := hh.val 7 (by kernel_rfl) (by kernel_rfl)
            rw [Hrge7.out] at d7
            simp only [hFrg, d3, d7]
            clear d3 d7
            refine .inl ⟨rfl, ?_⟩
            unfold Reg.upon
            have hk := Hrgk.out 8 Lq wq  hh.cls
            have hx := Hrgx.out wq
            have he : Erg 8 (.bool true) wq := by rw [Hrge8.out]
            have HK := Lib.hid (And.intro hk (And.intro he hx))
            clear hk hx he
            go_simp
            exact HK.out
          · intro Lq wq xq hh
            have d8 : Erg 8 (xq 8) wq := hh.val 8 (by kernel_rfl) (by kernel_rfl)
            rw [Hrge8.out] at d8
            simp only [hFrg, d8]
            clear d8
            refine .inl ⟨rfl, ?_⟩
            unfold Reg.upon
            have hk := Hrgk.out 9 Lq wq  hh.cls
            have hx := Hrgx.out wq
            have he : Erg 9 (.bool true) wq := by rw [Hrge9.out]
            have HK := Lib.hid (And.intro hk (And.intro he hx))
            clear hk hx he
            go_simp
            exact HK.out
          · intro Lq wq xq hh
            have d9 : Erg 9 (xq 9) wq := hh.val 9 (by kernel_rfl) (by kernel_rfl)
            rw [Hrge9.out] at d9
            simp only [hFrg, d9]
            clear d9
            exact .inr ⟨rfl, Hrgk.out 10 Lq wq  hh.cls, (by rw [Hrge10.out])⟩
          · intro Lq wq xq hh
            have d9 : Erg 9 (xq 9) wq := hh.val 9 (by kernel_rfl) (by kernel_rfl)
            rw [Hrge9.out] at d9
            simp only [hFrg, d9]
            clear d9
            exact .inr ⟨rfl, Hrgk.out 11 Lq wq  hh.cls, (by rw [Hrge11.out])⟩
          · intro Lq wq xq hh
            have d9 : Erg 9 (xq 9) wq := hh.val 9 (by kernel_rfl) (by kernel_rfl)
            rw [Hrge9.out] at d9
            have d10 : Erg 10 (xq 10) wq := hh.val 10 (by kernel_rfl) (by kernel_rfl)
            rw [Hrge10.out] at d10
            have d11 : Erg 11 (xq 11) wq := hh.val 11 (by kernel_rfl) (by kernel_rfl)
            rw [Hrge11.out] at d11
            simp only [hFrg, d9, d10, d11]
            clear d9 d10 d11
            exact .inr ⟨rfl, Hrgk.out 12 Lq wq  hh.cls, (by rw [Hrge12.out])⟩
          · intro Lq wq xq hh
            have d9 : Erg 9 (xq 9) wq := hh.val 9 (by kernel_rfl) (by kernel_rfl)
            rw [Hrge9.out] at d9
            have d12 : Erg 12 (xq 12) wq := hh.val 12 (by kernel_rfl) (by kernel_rfl)
            rw [Hrge12.out] at d12
            simp only [hFrg, d9, d12]
            clear d9 d12
            refine .inl ⟨rfl, ?_⟩
            unfold Reg.upon
            have hk := Hrgk.out 13 Lq wq  hh.cls
            have hx := Hrgx.out wq
            have he : Erg 13 (.bool true) wq := by rw [Hrge13.out]
            have HK := Lib.hid (And.intro hk (And.intro he hx))
            clear hk hx he
            go_simp
            exact HK.out
          · intro Lq wq xq hh
            have d13 : Erg 13 (xq 13) wq := hh.val 13 (by kernel_rfl) (by kernel_rfl)
            rw [Hrge13.out] at d13
            simp only [hFrg, d13]
            clear d13
            refine .inl ⟨rfl, ?_⟩
            unfold Reg.upon
            have hk := Hrgk.out 14 Lq wq  hh.cls
            have hx := Hrgx.out wq
            have he : Erg 14 (.bool true) wq := by rw [Hrge14.out]
            have HK := Lib.hid (And.intro hk (And.intro he hx))
            clear hk hx he
            go_simp
            exact HK.out
          · intro Lq wq xq hh
            have d14 : Erg 14 (xq 14) wq := hh.val 14 (by kernel_rfl) (by kernel_rfl)
            rw [Hrge14.out] at d14
            simp only [hFrg, d14]
            clear d14
            refine .inl ⟨rfl, ?_⟩
            unfold Reg.upon
            have hc : Crg Lq wq := hh.cls
            rw [HrghC.out] at hc
            rw [exec_load_has rfl rfl (HIT.out.below hc HIT.out.lt) Tryd.underlying27 rfl info_cell2 rfl]
            exact ⟨Hrgk.out 15 Lq wq  hh.cls, (by rw [Hrge15.out]; try rfl), Hrgx.out _⟩
          · intro Lq wq xq hh
            have d14 : Erg 14 (xq 14) wq := hh.val 14 (by kernel_rfl) (by kernel_rfl)
            rw [Hrge14.out] at d14
            have d15 : Erg 15 (xq 15) wq := hh.val 15 (by kernel_rfl) (by kernel_rfl)
            rw [Hrge15.out] at d15
            simp only [hFrg, d14, d15]
            clear d14 d15
            refine .inl ⟨rfl, ?_⟩
            unfold Reg.upon
            have hc : Crg Lq wq := hh.cls
            rw [HrghC.out] at hc
            have hb1 := (Below.refl wq.heap.size wq).alloc (Nat.le_refl _) (.cells #[.int .i64 K, .slice ta X.length tc] 27)
            have ho := (strip1_own (fun _ => True) wq (B := 0) K _ X ((HT6.out.below hc).zone (fun _ _ _ => trivial)) (Nat.zero_le _)).held (fun _ _ _ => trivial)
            go_simp
            refine ⟨Hrgk.out 16 Lq _ (Hrgb.out Lq wq _ hh.cls hb1), ?_, Hrgxb.out wq _ hb1⟩
            rw [Hrge16.out]
            exact ho
          · intro Lq wq xq hh
            have d14 : Erg 14 (xq 14) wq := hh.val 14 (by kernel_rfl) (by kernel_rfl)
            rw [Hrge14.out] at d14
            simp only [hFrg, d14]
            clear d14
            refine .inl ⟨rfl, ?_⟩
            unfold Reg.upon
            have hk := Hrgk.out 17 Lq wq  hh.cls
            have hx := Hrgx.out wq
            have he : Erg 17 (.slice (some ⟨b, off, none⟩) L.length ca) wq := by rw [Hrge17.out]
            have HK := Lib.hid (And.intro hk (And.intro he hx))
            clear hk hx he
            go_simp
            exact HK.out
          · intro Lq wq xq hh
            have d14 : Erg 14 (xq 14) wq := hh.val 14 (by kernel_rfl) (by kernel_rfl)
            rw [Hrge14.out] at d14
            simp only [hFrg, d14]
            clear d14
            refine .inl ⟨rfl, ?_⟩
            unfold Reg.upon
            have hk := Hrgk.out 18 Lq wq  hh.cls
            have hx := Hrgx.out wq
            have he : Erg 18 (.int .i64 k) wq := by rw [Hrge18.out]
            have HK := Lib.hid (And.intro hk (And.intro he hx))
            clear hk hx he
            go_simp
            exact HK.out
          · intro Lq wq xq hh
            have d14 : Erg 14 (xq 14) wq := hh.val 14 (by kernel_rfl) (by kernel_rfl)
            rw [Hrge14.out] at d14
            simp only [hFrg, d14]
            clear d14
            refine .inl ⟨rfl, ?_⟩
            unfold Reg.upon
            have hk := Hrgk.out 19 Lq wq  hh.cls
            have hx := Hrgx.out wq
            have he : Erg 19 (.int .i64 k) wq := by rw [Hrge19.out]
            have HK := Lib.hid (And.intro hk (And.intro he hx))
            clear hk hx he
            go_simp
            exact HK.out
          · intro Lq wq xq hh
            have d14 : Erg 14 (xq 14) wq := hh.val 14 (by kernel_rfl) (by kernel_rfl)
            rw [Hrge14.out] at d14
            have d19 : Erg 19 (xq 19) wq := hh.val 19 (by kernel_rfl) (by kernel_rfl)
            rw [Hrge19.out] at d19
            simp only [hFrg, d14, d19]
            clear d14 d19
            refine .inl ⟨rfl, ?_⟩
            unfold Reg.upon
            have hk := Hrgk.out 20 Lq wq  hh.cls
            have hx := Hrgx.out wq
            have he : Erg 20 (.int .i64 ((k : Int) + 1)) wq := by rw [Hrge20.out]
            have HK := Lib.hid (And.intro hk (And.intro he hx))
            clear hk hx he
            go_simp
            exact HK.out
          · intro Lq wq xq hh
            have d14 : Erg 14 (xq 14) wq := hh.val 14 (by kernel_rfl) (by kernel_rfl)
            rw [Hrge14.out] at d14
            have d17 : Erg 17 (xq 17) wq := hh.val 17 (by kernel_rfl) (by kernel_rfl)
            rw [Hrge17.out] at d17
            have d18 : Erg 18 (xq 18) wq := hh.val 18 (by kernel_rfl) (by kernel_rfl)
            rw [Hrge18.out] at d18
            have d20 : Erg 20 (xq 20) wq := hh.val 20 (by kernel_rfl) (by kernel_rfl)
            rw [Hrge20.out] at d20
            simp only [hFrg, d14, d17, d18, d20]
            clear d14 d17 d18 d20
            refine .inl ⟨rfl, ?_⟩
            unfold Reg.upon
            have hk := Hrgk.out 21 Lq wq  hh.cls
            have hx := Hrgx.out wq
            have he : Erg 21 (.slice (some ⟨b, off + k * 2, none⟩) 1 (ca - k)) wq := by rw [Hrge21.out]
            have HK := Lib.hid (And.intro hk (And.intro he hx))
            clear hk hx he
            go_simp
            exact HK.out
          · intro Lq wq xq hh
            have d14 : Erg 14 (xq 14) wq := hh.val 14 (by kernel_rfl) (by kernel_rfl)
            rw [Hrge14.out] at d14
            have d16 : Erg 16 (xq 16) wq := hh.val 16 (by kernel_rfl) (by kernel_rfl)
            rw [Hrge16.out] at d16
            have d21 : Erg 21 (xq 21) wq := hh.val 21 (by kernel_rfl) (by kernel_rfl)
            rw [Hrge21.out] at d21
            simp only [hFrg, d14, d21]
            clear d14 d21
            refine .inl ⟨rfl, ?_⟩
            unfold Reg.upon
            have hc : Crg Lq wq := hh.cls
            rw [HrghC.out] at hc
            go_simp
            refine ((show Calls _ _ _ _ (Gives _ (.bool true)) from (sameC_self [(K, X)]) ▸ rcsame_any _ _ _ _ _ _ _ d16 (hSame ▸ HLK.out wq (B.out.trans (hc.mono B.out.size))))).mono ?_
            rintro e w2 ⟨rfl, hb⟩
            exact ⟨_, rfl, Hrgk.out 22 Lq w2  (Hrgb.out Lq wq w2 hh.cls hb), (by rw [Hrge22.out]; try rfl), Hrgxb.out wq w2 hb⟩
          · intro Lq wq xq hh
            have d14 : Erg 14 (xq 14) wq := hh.val 14 (by kernel_rfl) (by kernel_rfl)
            rw [Hrge14.out] at d14
            have d22 : Erg 22 (xq 22) wq := hh.val 22 (by kernel_rfl) (by kernel_rfl)
            rw [Hrge22.out] at d22
            simp only [hFrg, d14, d22]
            clear d14 d22
            refine .inl ⟨rfl, ?_⟩
            unfold Reg.upon
            have hk := Hrgk.out 23 Lq wq  hh.cls
            have hx := Hrgx.out wq
            have he : Erg 23 (.bool false) wq := by rw [Hrge23.out]
            have HK := Lib.hid (And.intro hk (And.intro he hx))
            clear hk hx he
            go_simp
            exact HK.out
          · intro Lq wq xq hh
            have d14 : Erg 14 (xq 14) wq := hh.val 14 (by kernel_rfl) (by kernel_rfl)
            rw [Hrge14.out] at d14
            have d23 : Erg 23 (xq 23) wq := hh.val 23 (by kernel_rfl) (by kernel_rfl)
            rw [Hrge23.out] at d23
            simp only [hFrg, d14, d23]
            clear d14 d23
            refine .inl ⟨rfl, ?_⟩
            unfold Reg.upon
            have hk := Hrgk.out 24 Lq wq  hh.cls
            have hx := Hrgx.out wq
            have he : Erg 24 (.bool false) wq := by rw [Hrge24.out]
            have HK := Lib.hid (And.intro hk (And.intro he hx))
            clear hk hx he
            go_simp
            exact HK.out
        intro xq wrg hcrg hvrg
        rw [HrghC.out] at hcrg
        simp only [hFrg]
        have vrg24 : Erg 24 (xq 24) wrg := hvrg 24 (by decide)
        rw [Hrge24.out] at vrg24
        rw [vrg24]
        clear hvrg hFrg Hrgk Hrgx Hrgst Hrgc HrghC HrghX Hrgb Hrgxb Hrge0 Hrge1 Hrge2 Hrge3 Hrge4 Hrge5 Hrge6 Hrge7 Hrge8 Hrge9 Hrge10 Hrge11 Hrge12 Hrge13 Hrge14 Hrge15 Hrge16 Hrge17 Hrge18 Hrge19 Hrge20 Hrge21 Hrge22 Hrge23 Hrge24
        obtain ⟨w7, hw7⟩ : ∃ w7, w7 = wrg := ⟨_, rfl⟩
        rw [← hw7] at hcrg ⊢
        clear hw7 vrg24
        replace B := Lib.hid (B.out.trans (hcrg.mono B.out.size))
        replace R := Lib.hid (R.out.below hcrg)
        clear hcrg
        go_wp2
        go_roundw
        case rel => exact ⟨k + 1, by omega, by go_num, R.out, B.out⟩
        case measure => simp [intOf] <;> omega
      have d1 : decide ((F : Int) < T) = true := by simp; omega
      have d2 : decide ((T : Int) ≤ F) = false := by simp; omega
      by_cases hB : k < F
      · have d3 : decide ((F : Int) ≤ k) = false := by simp; omega
        by_cases hB1 : k + 1 < F
        · have d4 : decide ((k : Int) + 1 < F) = true := by simp; omega
          have hSame : c2 = (K, X) := (hf2 (.inr (.inl hB1))).symm
          clear hf1 hf2
          have HC2 := HC
          clear HC
          go_wp2_with fail
          refine HC2.out.mono ?_
          rintro e w5 ⟨tv, rfl, h5, b5⟩
          obtain ⟨ta, tc, rfl⟩ := h5.len
          go_upto_region 14 with (fail)
          obtain ⟨W6, hW6⟩ : ∃ W6, W6 = w5.alloc (.cells #[.int .i64 K, .slice ta X.length tc] 27) := ⟨_, rfl⟩
          have b6 : Below w5.heap.size w5 W6 := by rw [hW6]; exact (Below.refl _ _).alloc (Nat.le_refl _) _
          have hit : Has W6 w5.heap.size [.int .i64 K, .slice ta X.length tc] 27 := by rw [hW6]; exact Has.new w5 _ _
          rw [← hW6]
          have HT6 := Lib.hid (h5.below b6)
          have HIT := Lib.hid hit
          have b56 := b5.trans (b6.mono b5.size)
          have HSZ := Lib.hid hit.lt
          replace R := Lib.hid (R.out.below b56)
          replace B := Lib.hid (B.out.trans (b56.mono B.out.size))
          clear h5 b5 b6 hit hW6 b56 HC2
          obtain ⟨Erg, hErg⟩ : ∃ EE : Nat → Value → World → Prop, EE = fun jj xx ww => match jj with
              | 0 => xx = .int .i64 F
              | 1 => xx = .int .i64 T
              | 2 => xx = .bool false
              | 3 => xx = .bool false
              | 4 => xx = .int .i64 k
              | 5 => xx = .int .i64 ((k : Int) + 1)
              | 6 => xx = .int .i64 F
              | 7 => xx = .bool true
              | 8 => xx = .bool true
              | 9 => xx = .bool true
              | 10 => xx = undef
              | 11 => xx = undef
              | 12 => xx = undef
              | 13 => xx = .bool true
              | 14 => xx = .bool true
              | 15 => xx = .agg #[.int .i64 K, .slice ta X.length tc]
              | 16 => (fun x w' => HeldE cellE (fun _ => True) w' x [(K, X)]) xx ww
              | 17 => xx = .slice (some ⟨b, off, none⟩) L.length ca
              | 18 => xx = .int .i64 k
              | 19 => xx = .int .i64 k
              | 20 => xx = .int .i64 ((k : Int) + 1)
              | 21 => xx = .slice (some ⟨b, off + k * 2, none⟩) 1 (ca - k)
              | 22 => xx = .bool true
              | 23 => xx = .bool false
              | 24 => xx = .bool false
              | _ => True := ⟨_, rfl⟩
          have erg0 : ∀ xx ww, Erg 0 xx ww = (xx = .int .i64 F) := fun xx ww => congrFun (congrFun (congrFun hErg 0) xx) ww
          have erg1 : ∀ xx ww, Erg 1 xx ww = (xx = .int .i64 T) := fun xx ww => congrFun (congrFun (congrFun hErg 1) xx) ww
          have erg2 : ∀ xx ww, Erg 2 xx ww = (xx = .bool false) := fun xx ww => congrFun (congrFun (congrFun hErg 2) xx) ww
          have erg3 : ∀ xx ww, Erg 3 xx ww = (xx = .bool false) := fun xx ww => congrFun (congrFun (congrFun hErg 3) xx) ww
          have erg4 : ∀ xx ww, Erg 4 xx ww = (xx = .int .i64 k) := fun xx ww => congrFun (congrFun (congrFun hErg 4) xx) ww
          have erg5 : ∀ xx ww, Erg 5 xx ww = (xx = .int .i64 ((k : Int) + 1)) := fun xx ww => congrFun (congrFun (congrFun hErg 5) xx) ww
          have erg6 : ∀ xx ww, Erg 6 xx ww = (xx = .int .i64 F) := fun xx ww => congrFun (congrFun (congrFun hErg 6) xx) ww
          have erg7 : ∀ xx ww, Erg 7 xx ww = (xx = .bool true) := fun xx ww => congrFun (congrFun (congrFun hErg 7) xx) ww
          have erg8 : ∀ xx ww, Erg 8 xx ww = (xx = .bool true) := fun xx ww => congrFun (congrFun (congrFun hErg 8) xx) ww
          have erg9 : ∀ xx ww, Erg 9 xx ww = (xx = .bool true) := fun xx ww => congrFun (congrFun (congrFun hErg 9) xx) ww
          have erg10 : ∀ xx ww, Erg 10 xx ww = (xx = undef) := fun xx ww => congrFun (congrFun (congrFun hErg 10) xx) ww
          have erg11 : ∀ xx ww, Erg 11 xx ww = (xx = undef) := fun xx ww => congrFun (congrFun (congrFun hErg 11) xx) ww
          have erg12 : ∀ xx ww, Erg 12 xx ww = (xx = undef) := fun xx ww => congrFun (congrFun (congrFun hErg 12) xx) ww
          have erg13 : ∀ xx ww, Erg 13 xx ww = (xx = .bool true) := fun xx ww => congrFun (congrFun (congrFun hErg 13) xx) ww
          have erg14 : ∀ xx ww, Erg 14 xx ww = (xx = .bool true) := fun xx ww => congrFun (congrFun (congrFun hErg 14) xx) ww
          have erg15 : ∀ xx ww, Erg 15 xx ww = (xx = .agg #[.int .i64 K, .slice ta X.length tc]) := fun xx ww => congrFun (congrFun (congrFun hErg 15) xx) ww
          have erg16 : ∀ xx ww, Erg 16 xx ww = ((fun x w' => HeldE cellE (fun _ => True) w' x [(K, X)]) xx ww) := fun xx ww => congrFun (congrFun (congrFun hErg 16) xx) ww
          have erg17 : ∀ xx ww, Erg 17 xx ww = (xx = .slice (some ⟨b, off, none⟩) L.length ca) := fun xx ww => congrFun (congrFun (congrFun hErg 17) xx) ww
          have erg18 : ∀ xx ww, Erg 18 xx ww = (xx = .int .i64 k) := fun xx ww => congrFun (congrFun (congrFun hErg 18) xx) ww
          have erg19 : ∀ xx ww, Erg 19 xx ww = (xx = .int .i64 k) := fun xx ww => congrFun (congrFun (congrFun hErg 19) xx) ww
          have erg20 : ∀ xx ww, Erg 20 xx ww = (xx = .int .i64 ((k : Int) + 1)) := fun xx ww => congrFun (congrFun (congrFun hErg 20) xx) ww
          have erg21 : ∀ xx ww, Erg 21 xx ww = (xx = .slice (some ⟨b, off + k * 2, none⟩) 1 (ca - k)) := fun xx ww => congrFun (congrFun (congrFun hErg 21) xx) ww
          have erg22 : ∀ xx ww, Erg 22 xx ww = (xx = .bool true) := fun xx ww => congrFun (congrFun (congrFun hErg 22) xx) ww
          have erg23 : ∀ xx ww, Erg 23 xx ww = (xx = .bool false) := fun xx ww => congrFun (congrFun (congrFun hErg 23) xx) ww
          have erg24 : ∀ xx ww, Erg 24 xx ww = (xx = .bool false) := fun xx ww => congrFun (congrFun (congrFun hErg 24) xx) ww
          obtain ⟨Crg, hCrg⟩ : ∃ CC : Array Bool → World → Prop, CC = fun L8 w' => Below W6.heap.size W6 w' := ⟨_, rfl⟩
          have krg : ∀ i L w,  Crg L w → Crg (L.setIfInBounds i true) w := by
            intro i L w  h
            rw [hCrg] at h ⊢
            exact h
          obtain ⟨Xrg, hXrg⟩ : ∃ XX : World → World → Prop, XX = fun x y => Below x.heap.size x y := ⟨_, rfl⟩
          have xrg : ∀ w, Xrg w w := fun w => by rw [hXrg]; exact Below.refl _ _
          have strg : ∀ j x w w1, Xrg w w1 → Erg j x w → Erg j x w1 := by
            intro j x w w1 hx h
            rw [hXrg] at hx
            match j with
            | 0 => rw [erg0] at h ⊢; exact h
            | 1 => rw [erg1] at h ⊢; exact h
            | 2 => rw [erg2] at h ⊢; exact h
            | 3 => rw [erg3] at h ⊢; exact h
            | 4 => rw [erg4] at h ⊢; exact h
            | 5 => rw [erg5] at h ⊢; exact h
            | 6 => rw [erg6] at h ⊢; exact h
            | 7 => rw [erg7] at h ⊢; exact h
            | 8 => rw [erg8] at h ⊢; exact h
            | 9 => rw [erg9] at h ⊢; exact h
            | 10 => rw [erg10] at h ⊢; exact h
            | 11 => rw [erg11] at h ⊢; exact h
            | 12 => rw [erg12] at h ⊢; exact h
            | 13 => rw [erg13] at h ⊢; exact h
            | 14 => rw [erg14] at h ⊢; exact h
            | 15 => rw [erg15] at h ⊢; exact h
            | 16 => rw [erg16] at h ⊢; (exact HeldE.below h hx)
            | 17 => rw [erg17] at h ⊢; exact h
            | 18 => rw [erg18] at h ⊢; exact h
            | 19 => rw [erg19] at h ⊢; exact h
            | 20 => rw [erg20] at h ⊢; exact h
            | 21 => rw [erg21] at h ⊢; exact h
            | 22 => rw [erg22] at h ⊢; exact h
            | 23 => rw [erg23] at h ⊢; exact h
            | 24 => rw [erg24] at h ⊢; exact h
            | j + 25 => rw [hErg]; trivial
          have crg : Crg (Array.replicate 25 false) W6.drew := by rw [hCrg]; exact (Below.refl _ _).drew
          have brg : ∀ L w w1, Crg L w → Below w.heap.size w w1 → Crg L w1 := by
            intro L w w1 h hb
            rw [hCrg] at h ⊢
            exact h.trans (hb.mono h.size)
          have xbrg : ∀ w w1, Below w.heap.size w w1 → Xrg w w1 := by
            intro w w1 hb
            rw [hXrg]
            exact hb
          have Hrgb := Lib.hid brg
          have Hrgxb := Lib.hid xbrg
          clear brg xbrg
          clear hErg
          have Hrgk := Lib.hid krg
          have Hrgx := Lib.hid xrg
          have Hrgst := Lib.hid strg
          have Hrgc := Lib.hid crg
          have HrghC := Lib.hid hCrg
          have HrghX := Lib.hid hXrg
          have Hrge0 := Lib.hid erg0
          have Hrge1 := Lib.hid erg1
          have Hrge2 := Lib.hid erg2
          have Hrge3 := Lib.hid erg3
          have Hrge4 := Lib.hid erg4
          have Hrge5 := Lib.hid erg5
          have Hrge6 := Lib.hid erg6
          have Hrge7 := Lib.hid erg7
          have Hrge8 := Lib.hid erg8
          have Hrge9 := Lib.hid erg9
          have Hrge10 := Lib.hid erg10
          have Hrge11 := Lib.hid erg11
          have Hrge12 := Lib.hid erg12
          have Hrge13 := Lib.hid erg13
          have Hrge14 := Lib.hid erg14
          have Hrge15 := Lib.hid erg15
          have Hrge16 := Lib.hid erg16
          have Hrge17 := Lib.hid erg17
          have Hrge18 := Lib.hid erg18
          have Hrge19 := Lib.hid erg19
          have Hrge20 := Lib.hid erg20
          have Hrge21 := Lib.hid erg21
          have Hrge22 := Lib.hid erg22
          have Hrge23 := Lib.hid erg23
          have Hrge24 := Lib.hid erg24
          clear krg xrg strg crg hCrg hXrg erg0 erg1 erg2 erg3 erg4 erg5 erg6 erg7 erg8 erg9 erg10 erg11 erg12 erg13 erg14 erg15 erg16 erg17 erg18 erg19 erg20 erg21 erg22 erg23 erg24
          go_wp2_with fail
          refine Reg.regionF Erg Crg Xrg Hrgst.out (by kernel_rfl) (by kernel_rfl) (by kernel_rfl) Hrgc.out (fun Frg hFrg => ?_)
          simp only [Reg.frame, Reg.dsts, List.map_cons, List.map_nil, Mix.put_lit, List.set_cons_succ, List.set_cons_zero, Nat.zero_add, Nat.reduceAdd] at hFrg
          refine ⟨?_, ?_⟩
          · refine ⟨?_, ?_, ?_, ?_, ?_, ?_, ?_, ?_, ?_, ?_, ?_, ?_, ?_, ?_, ?_, ?_, ?_, ?_, ?_, ?_, ?_, ?_, ?_, ?_, ?_, trivial⟩
            · intro Lq wq xq hh
              simp only [hFrg]
              refine .inl ⟨rfl, ?_⟩
              unfold Reg.upon
              have hk := Hrgk.out 0 Lq wq  hh.cls
              have hx := Hrgx.out wq
              have he : Erg 0 (.int .i64 F) wq := by rw [Hrge0.out]
              have HK := Lib.hid (And.intro hk (And.intro he hx))
              clear hk hx he
              go_simp
              exact HK.out
            · intro Lq wq xq hh
              simp only [hFrg]
              refine .inl ⟨rfl, ?_⟩
              unfold Reg.upon
              have hk := Hrgk.out 1 Lq wq  hh.cls
              have hx := Hrgx.out wq
              have he : Erg 1 (.int .i64 T) wq := by rw [Hrge1.out]
              have HK := Lib.hid (And.intro hk (And.intro he hx))
              clear hk hx he
              go_simp
              exact HK.out
            · intro Lq wq xq hh
              have d0 : Erg 0 (xq 0) wq := hh.val 0 (by kernel_rfl) (by kernel_rfl)
              rw [Hrge0.out] at d0
              have d1 : Erg 1 (xq 1) wq := hh.val 1 (by kernel_rfl) (by kernel_rfl)
              rw [Hrge1.out] at d1
              simp only [hFrg, d0, d1]
              clear d0 d1
              refine .inl ⟨rfl, ?_⟩
              unfold Reg.upon
              have hk := Hrgk.out 2 Lq wq  hh.cls
              have hx := Hrgx.out wq
              have he : Erg 2 (.bool false) wq := by rw [Hrge2.out]
              have HK := Lib.hid (And.intro hk (And.intro he hx))
              clear hk hx he
              go_simp
              exact HK.out
            · intro Lq wq xq hh
              have d2 : Erg 2 (xq 2) wq := hh.val 2 (by kernel_rfl) (by kernel_rfl)
              rw [Hrge2.out] at d2
              simp only [hFrg, d2]
              clear d2
              refine .inl ⟨rfl, ?_⟩
              unfold Reg.upon
              have hk := Hrgk.out 3 Lq wq  hh.cls
              have hx := Hrgx.out wq
              have he : Erg 3 (.bool false) wq := by rw [Hrge3.out]
              have HK := Lib.hid (And.intro hk (And.intro he hx))
              clear hk hx he
              go_simp
              exact HK.out
            · intro Lq wq xq hh
              have d3 : Erg 3 (xq 3) wq := hh.val 3 (by kernel_rfl) (by kernel_rfl)
              rw [Hrge3.out] at d3
              simp only [hFrg, d3]
              clear d3
              refine .inl ⟨rfl, ?_⟩
              unfold Reg.upon
              have hk := Hrgk.out 4 Lq wq  hh.cls
              have hx := Hrgx.out wq
              have he : Erg 4 (.int .i64 k) wq := by rw [Hrge4.out]
              have HK := Lib.hid (And.intro hk (And.intro he hx))
              clear hk hx he
              go_simp
              exact HK.out
            · intro Lq wq xq hh
              have d3 : Erg 3 (xq 3) wq := hh.val 3 (by kernel_rfl) (by kernel_rfl)
              rw [Hrge3.out] at d3
              have d4 : Erg 4 (xq 4) wq := hh.val 4 (by kernel_rfl) (by kernel_rfl)
              rw [Hrge4.out] at d4
              simp only [hFrg, d3, d4]
              clear d3 d4
              refine .inl ⟨rfl, ?_⟩
              unfold Reg.upon
              have hk := Hrgk.out 5 Lq wq  hh.cls
              have hx := Hrgx.out wq
              have he : Erg 5 (.int .i64 ((k : Int) + 1)) wq := by rw [Hrge5.out]
              have HK := Lib.hid (And.intro hk (And.intro he hx))
              clear hk hx he
              go_simp
              exact HK.out
            · intro Lq wq xq hh
              have d3 : Erg 3 (xq 3) wq := hh.val 3 (by kernel_rfl) (by kernel_rfl)
              rw [Hrge3.out] at d3
              simp only [hFrg, d3]
              clear d3
              refine .inl ⟨rfl, ?_⟩
              unfold Reg.upon
              have hk := Hrgk.out 6 Lq wq  hh.cls
              have hx := Hrgx.out wq
              have he : Erg 6 (.int .i64 F) wq := by rw [Hrge6.out]
              have HK := Lib.hid (And.intro hk (And.intro he hx))
              clear hk hx he
              go_simp
              exact HK.out
            · intro Lq wq xq hh
              have d3 : Erg 3 (xq 3) wq := hh.val 3 (by kernel_rfl) (by kernel_rfl)
              rw [Hrge3.out] at d3
              have d5 : Erg 5 (xq 5) wq := hh.val 5 (by kernel_rfl) (by kernel_rfl)
              rw [Hrge5.out] at d5
              have d6 : Erg 6 (xq 6) wq := hh.val 6 (by kernel_rfl) (by kernel_rfl)
              rw [Hrge6.out] at d6
              simp only [hFrg, d3, d5, d6]
              clear d3 d5 d6
              refine .inl ⟨rfl, ?_⟩
              unfold Reg.upon
              have hk := Hrgk.out 7 Lq wq  hh.cls
              have hx := Hrgx.out wq
              have he : Erg 7 (.bool true) wq := by rw [Hrge7.out]
              have HK := Lib.hid (And.intro hk (And.intro he hx))
              clear hk hx he
              go_simp
              exact HK.out
            · intro Lq wq xq hh
              have d3 : Erg 3 (xq 3) wq := hh.val 3 (by kernel_rfl) (by kernel_rfl)
              rw [Hrge3.out] at d3
              have d7 : Erg 7 (xq 7) wq := hh.val 7 (by kernel_rfl) (by kernel_rfl)
              rw [Hrge7.out] at d7
              simp only [hFrg, d3, d7]
              clear d3 d7
              refine .inl ⟨rfl, ?_⟩
              unfold Reg.upon
              have hk := Hrgk.out 8 Lq wq  hh.cls
              have hx := Hrgx.out wq
              have he : Erg 8 (.bool true) wq := by rw [Hrge8.out]
              have HK := Lib.hid (And.intro hk (And.intro he hx))
              clear hk hx he
              go_simp
              exact HK.out
            · intro Lq wq xq hh
              have d8 : Erg 8 (xq 8) wq := hh.val 8 (by kernel_rfl) (by kernel_rfl)
              rw [Hrge8.out] at d8
              simp only [hFrg, d8]
              clear d8
              refine .inl ⟨rfl, ?_⟩
              unfold Reg.upon
              have hk := Hrgk.out 9 Lq wq  hh.cls
              have hx := Hrgx.out wq
              have he : Erg 9 (.bool true) wq := by rw [Hrge9.out]
              have HK := Lib.hid (And.intro hk (And.intro he hx))
              clear hk hx he
              go_simp
              exact HK.out
            · intro Lq wq xq hh
              have d9 : Erg 9 (xq 9) wq := hh.val 9 (by kernel_rfl) (by kernel_rfl)
              rw [Hrge9.out] at d9
              simp only [hFrg, d9]
              clear d9
              exact .inr ⟨rfl, Hrgk.out 10 Lq wq  hh.cls, (by rw [Hrge10.out])⟩
            · intro Lq wq xq hh
              have d9 : Erg 9 (xq 9) wq := hh.val 9 (by kernel_rfl) (by kernel_rfl)
              rw [Hrge9.out] at d9
              simp only [hFrg, d9]
              clear d9
              exact .inr ⟨rfl, Hrgk.out 11 Lq wq  hh.cls, (by rw [Hrge11.out])⟩
            · intro Lq wq xq hh
              have d9 : Erg 9 (xq 9) wq := hh.val 9 (by kernel_rfl) (by kernel_rfl)
              rw [Hrge9.out] at d9
              have d10 : Erg 10 (xq 10) wq := hh.val 10 (by kernel_rfl) (by kernel_rfl)
              rw [Hrge10.out] at d10
              have d11 : Erg 11 (xq 11) wq := hh.val 11 (by kernel_rfl) (by kernel_rfl)
              rw [Hrge11.out] at d11
              simp only [hFrg, d9, d10, d11]
              clear d9 d10 d11
              exact .inr ⟨rfl, Hrgk.out 12 Lq wq  hh.cls, (by rw [Hrge12.out])⟩
            · intro Lq wq xq hh
              have d9 : Erg 9 (xq 9) wq := hh.val 9 (by kernel_rfl) (by kernel_rfl)
              rw [Hrge9.out] at d9
              have d12 : Erg 12 (xq 12) wq := hh.val 12 (by kernel_rfl) (by kernel_rfl)
              rw [Hrge12.out] at d12
              simp only [hFrg, d9, d12]
              clear d9 d12
              refine .inl ⟨rfl, ?_⟩
              unfold Reg.upon
              have hk := Hrgk.out 13 Lq wq  hh.cls
              have hx := Hrgx.out wq
              have he : Erg 13 (.bool true) wq := by rw [Hrge13.out]
              have HK := Lib.hid (And.intro hk (And.intro he hx))
              clear hk hx he
              go_simp
              exact HK.out
            · intro Lq wq xq hh
              have d13 : Erg 13 (xq 13) wq := hh.val 13 (by kernel_rfl) (by kernel_rfl)
              rw [Hrge13.out] at d13
              simp only [hFrg, d13]
              clear d13
              refine .inl ⟨rfl, ?_⟩
              unfold Reg.upon
              have hk := Hrgk.out 14 Lq wq  hh.cls
              have hx := Hrgx.out wq
              have he : Erg 14 (.bool true) wq := by rw [Hrge14.out]
              have HK := Lib.hid (And.intro hk (And.intro he hx))
              clear hk hx he
              go_simp
              exact HK.out
            · intro Lq wq xq hh
              have d14 : Erg 14 (xq 14) wq := hh.val 14 (by kernel_rfl) (by kernel_rfl)
              rw [Hrge14.out] at d14
              simp only [hFrg, d14]
              clear d14
              refine .inl ⟨rfl, ?_⟩
              unfold Reg.upon
              have hc : Crg Lq wq := hh.cls
              rw [HrghC.out] at hc
              rw [exec_load_has rfl rfl (HIT.out.below hc HIT.out.lt) Tryd.underlying27 rfl info_cell2 rfl]
              exact ⟨Hrgk.out 15 Lq wq  hh.cls, (by rw [Hrge15.out]; try rfl), Hrgx.out _⟩
            · intro Lq wq xq hh
              have d14 : Erg 14 (xq 14) wq := hh.val 14 (by kernel_rfl) (by kernel_rfl)
              rw [Hrge14.out] at d14
              have d15 : Erg 15 (xq 15) wq := hh.val 15 (by kernel_rfl) (by kernel_rfl)
              rw [Hrge15.out] at d15
              simp only [hFrg, d14, d15]
              clear d14 d15
              refine .inl ⟨rfl, ?_⟩
              unfold Reg.upon
              have hc : Crg Lq wq := hh.cls
              rw [HrghC.out] at hc
              have hb1 := (Below.refl wq.heap.size wq).alloc (Nat.le_refl _) (.cells #[.int .i64 K, .slice ta X.length tc] 27)
              have ho := (strip1_own (fun _ => True) wq (B := 0) K _ X ((HT6.out.below hc).zone (fun _ _ _ => trivial)) (Nat.zero_le _)).held (fun _ _ _ => trivial)
              go_simp
              refine ⟨Hrgk.out 16 Lq _ (Hrgb.out Lq wq _ hh.cls hb1), ?_, Hrgxb.out wq _ hb1⟩
              rw [Hrge16.out]
              exact ho
            · intro Lq wq xq hh
              have d14 : Erg 14 (xq 14) wq := hh.val 14 (by kernel_rfl) (by kernel_rfl)
              rw [Hrge14.out] at d14
              simp only [hFrg, d14]
              clear d14
              refine .inl ⟨rfl, ?_⟩
              unfold Reg.upon
              have hk := Hrgk.out 17 Lq wq  hh.cls
              have hx := Hrgx.out wq
              have he : Erg 17 (.slice (some ⟨b, off, none⟩) L.length ca) wq := by rw [Hrge17.out]
              have HK := Lib.hid (And.intro hk (And.intro he hx))
              clear hk hx he
              go_simp
              exact HK.out
            · intro Lq wq xq hh
              have d14 : Erg 14 (xq 14) wq := hh.val 14 (by kernel_rfl) (by kernel_rfl)
              rw [Hrge14.out] at d14
              simp only [hFrg, d14]
              clear d14
              refine .inl ⟨rfl, ?_⟩
              unfold Reg.upon
              have hk := Hrgk.out 18 Lq wq  hh.cls
              have hx := Hrgx.out wq
              have he : Erg 18 (.int .i64 k) wq := by rw [Hrge18.out]
              have HK := Lib.hid (And.intro hk (And.intro he hx))
              clear hk hx he
              go_simp
              exact HK.out
            · intro Lq wq xq hh
              have d14 : Erg 14 (xq 14) wq := hh.val 14 (by kernel_rfl) (by kernel_rfl)
              rw [Hrge14.out] at d14
              simp only [hFrg, d14]
              clear d14
              refine .inl ⟨rfl, ?_⟩
              unfold Reg.upon
              have hk := Hrgk.out 19 Lq wq  hh.cls
              have hx := Hrgx.out wq
              have he : Erg 19 (.int .i64 k) wq := by rw [Hrge19.out]
              have HK := Lib.hid (And.intro hk (And.intro he hx))
              clear hk hx he
              go_simp
              exact HK.out
            · intro Lq wq xq hh
              have d14 : Erg 14 (xq 14) wq := hh.val 14 (by kernel_rfl) (by kernel_rfl)
              rw [Hrge14.out] at d14
              have d19 : Erg 19 (xq 19) wq := hh.val 19 (by kernel_rfl) (by kernel_rfl)
              rw [Hrge19.out] at d19
              simp only [hFrg, d14, d19]
              clear d14 d19
              refine .inl ⟨rfl, ?_⟩
              unfold Reg.upon
              have hk := Hrgk.out 20 Lq wq  hh.cls
              have hx := Hrgx.out wq
              have he : Erg 20 (.int .i64 ((k : Int) + 1)) wq := by rw [Hrge20.out]
              have HK := Lib.hid (And.intro hk (And.intro he hx))
              clear hk hx he
              go_simp
              exact HK.out
            · intro Lq wq xq hh
              have d14 : Erg 14 (xq 14) wq := hh.val 14 (by kernel_rfl) (by kernel_rfl)
              rw [Hrge14.out] at d14
              have d17 : Erg 17 (xq 17) wq := hh.val 17 (by kernel_rfl) (by kernel_rfl)
              rw [Hrge17.out] at d17
              have d18 : Erg 18 (xq 18) wq := hh.val 18 (by kernel_rfl) (by kernel_rfl)
              rw [Hrge18.out] at d18
              have d20 : Erg 20 (xq 20) wq := hh.val 20 (by kernel_rfl) (by kernel_rfl)
              rw [Hrge20.out] at d20
              simp only [hFrg, d14, d17, d18, d20]
              clear d14 d17 d18 d20
              refine .inl ⟨rfl, ?_⟩
              unfold Reg.upon
              have hk := Hrgk.out 21 Lq wq  hh.cls
              have hx := Hrgx.out wq
              have he : Erg 21 (.slice (some ⟨b, off + k * 2, none⟩) 1 (ca - k)) wq := by rw [Hrge21.out]
              have HK := Lib.hid (And.intro hk (And.intro he hx))
              clear hk hx he
              go_simp
              exact HK.out
            · intro Lq wq xq hh
              have d14 : Erg 14 (xq 14) wq := hh.val 14 (by kernel_rfl) (by kernel_rfl)
              rw [Hrge14.out] at d14
              have d16 : Erg 16 (xq 16) wq := hh.val 16 (by kernel_rfl) (by kernel_rfl)
              rw [Hrge16.out] at d16
              have d21 : Erg 21 (xq 21) wq := hh.val 21 (by kernel_rfl) (by kernel_rfl)
              rw [Hrge21.out] at d21
              simp only [hFrg, d14, d21]
              clear d14 d21
              refine .inl ⟨rfl, ?_⟩
              unfold Reg.upon
              have hc : Crg Lq wq := hh.cls
              rw [HrghC.out] at hc
              go_simp
              refine ((show Calls _ _ _ _ (Gives _ (.bool true)) from (sameC_self [(K, X)]) ▸ rcsame_any _ _ _ _ _ _ _ d16 (hSame ▸ HLK.out wq (B.out.trans (hc.mono B.out.size))))).mono ?_
              rintro e w2 ⟨rfl, hb⟩
              exact ⟨_, rfl, Hrgk.out 22 Lq w2  (Hrgb.out Lq wq w2 hh.cls hb), (by rw [Hrge22.out]; try rfl), Hrgxb.out wq w2 hb⟩
            · intro Lq wq xq hh
              have d14 : Erg 14 (xq 14) wq := hh.val 14 (by kernel_rfl) (by kernel_rfl)
              rw [Hrge14.out] at d14
              have d22 : Erg 22 (xq 22) wq := hh.val 22 (by kernel_rfl) (by kernel_rfl)
              rw [Hrge22.out] at d22
              simp only [hFrg, d14, d22]
              clear d14 d22
              refine .inl ⟨rfl, ?_⟩
              unfold Reg.upon
              have hk := Hrgk.out 23 Lq wq  hh.cls
              have hx := Hrgx.out wq
              have he : Erg 23 (.bool false) wq := by rw [Hrge23.out]
              have HK := Lib.hid (And.intro hk (And.intro he hx))
              clear hk hx he
              go_simp
              exact HK.out
            · intro Lq wq xq hh
              have d14 : Erg 14 (xq 14) wq := hh.val 14 (by kernel_rfl) (by kernel_rfl)
              rw [Hrge14.out] at d14
              have d23 : Erg 23 (xq 23) wq := hh.val 23 (by kernel_rfl) (by kernel_rfl)
              rw [Hrge23.out] at d23
              simp only [hFrg, d14, d23]
              clear d14 d23
              refine .inl ⟨rfl, ?_⟩
              unfold Reg.upon
              have hk := Hrgk.out 24 Lq wq  hh.cls
              have hx := Hrgx.out wq
              have he : Erg 24 (.bool false) wq := by rw [Hrge24.out]
              have HK := Lib.hid (And.intro hk (And.intro he hx))
              clear hk hx he
              go_simp
              exact HK.out
          intro xq wrg hcrg hvrg
          rw [HrghC.out] at hcrg
          simp only [hFrg]
          have vrg24 : Erg 24 (xq 24) wrg := hvrg 24 (by decide)
          rw [Hrge24.out] at vrg24
          rw [vrg24]
          clear hvrg hFrg Hrgk Hrgx Hrgst Hrgc HrghC HrghX Hrgb Hrgxb Hrge0 Hrge1 Hrge2 Hrge3 Hrge4 Hrge5 Hrge6 Hrge7 Hrge8 Hrge9 Hrge10 Hrge11 Hrge12 Hrge13 Hrge14 Hrge15 Hrge16 Hrge17 Hrge18 Hrge19 Hrge20 Hrge21 Hrge22 Hrge23 Hrge24
          obtain ⟨w7, hw7⟩ : ∃ w7, w7 = wrg := ⟨_, rfl⟩
          rw [← hw7] at hcrg ⊢
          clear hw7 vrg24
          replace B := Lib.hid (B.out.trans (hcrg.mono B.out.size))
          replace R := Lib.hid (R.out.below hcrg)
          clear hcrg
          go_wp2
          go_roundw
          case rel => exact ⟨k + 1, by omega, by go_num, R.out, B.out⟩
          case measure => simp [intOf] <;> omega
        · have d4 : decide ((k : Int) + 1 < F) = false := by simp; omega
          have d5 : decide ((T : Int) < k) = false := by simp; omega
          have d5n : decide (T < k) = false := by simp; omega
          clear hf1 hf2
          have HC2 := HC
          clear HC
          go_wp2_with fail
          refine HC2.out.mono ?_
          rintro e w5 ⟨tv, rfl, h5, b5⟩
          obtain ⟨ta, tc, rfl⟩ := h5.len
          go_upto_region 14 with (fail)
          obtain ⟨W6, hW6⟩ : ∃ W6, W6 = w5.alloc (.cells #[.int .i64 K, .slice ta X.length tc] 27) := ⟨_, rfl⟩
          have b6 : Below w5.heap.size w5 W6 := by rw [hW6]; exact (Below.refl _ _).alloc (Nat.le_refl _) _
          have hit : Has W6 w5.heap.size [.int .i64 K, .slice ta X.length tc] 27 := by rw [hW6]; exact Has.new w5 _ _
          rw [← hW6]
          have HT6 := Lib.hid (h5.below b6)
          have HIT := Lib.hid hit
          have b56 := b5.trans (b6.mono b5.size)
          have HSZ := Lib.hid hit.lt
          replace R := Lib.hid (R.out.below b56)
          replace B := Lib.hid (B.out.trans (b56.mono B.out.size))
          clear h5 b5 b6 hit hW6 b56 HC2
          obtain ⟨Erg, hErg⟩ : ∃ EE : Nat → Value → World → Prop, EE = fun jj xx ww => match jj with
              | 0 => xx = .int .i64 F
              | 1 => xx = .int .i64 T
              | 2 => xx = .bool false
              | 3 => xx = .bool false
              | 4 => xx = .int .i64 k
              | 5 => xx = .int .i64 ((k : Int) + 1)
              | 6 => xx = .int .i64 F
              | 7 => xx = .bool false
              | 8 => xx = .bool false
              | 9 => xx = .bool false
              | 10 => xx = .int .i64 k
              | 11 => xx = .int .i64 T
              | 12 => xx = .bool false
              | 13 => xx = .bool false
              | 14 => xx = .bool false
              | 15 => xx = undef
              | 16 => xx = undef
              | 17 => xx = undef
              | 18 => xx = undef
              | 19 => xx = undef
              | 20 => xx = undef
              | 21 => xx = undef
              | 22 => xx = undef
              | 23 => xx = undef
              | 24 => xx = .bool false
              | _ => True := ⟨_, rfl⟩
          have erg0 : ∀ xx ww, Erg 0 xx ww = (xx = .int .i64 F) := fun xx ww => congrFun (congrFun (congrFun hErg 0) xx) ww
          have erg1 : ∀ xx ww, Erg 1 xx ww = (xx = .int .i64 T) := fun xx ww => congrFun (congrFun (congrFun hErg 1) xx) ww
          have erg2 : ∀ xx ww, Erg 2 xx ww = (xx = .bool false) := fun xx ww => congrFun (congrFun (congrFun hErg 2) xx) ww
          have erg3 : ∀ xx ww, Erg 3 xx ww = (xx = .bool false) := fun xx ww => congrFun (congrFun (congrFun hErg 3) xx) ww
          have erg4 : ∀ xx ww, Erg 4 xx ww = (xx = .int .i64 k) := fun xx ww => congrFun (congrFun (congrFun hErg 4) xx) ww
          have erg5 : ∀ xx ww, Erg 5 xx ww = (xx = .int .i64 ((k : Int) + 1)) := fun xx ww => congrFun (congrFun (congrFun hErg 5) xx) ww
          have erg6 : ∀ xx ww, Erg 6 xx ww = (xx = .int .i64 F) := fun xx ww => congrFun (congrFun (congrFun hErg 6) xx) ww
          have erg7 : ∀ xx ww, Erg 7 xx ww = (xx = .bool false) := fun xx ww => congrFun (congrFun (congrFun hErg 7) xx) ww
          have erg8 : ∀ xx ww, Erg 8 xx ww = (xx = .bool false) := fun xx ww => congrFun (congrFun (congrFun hErg 8) xx) ww
          have erg9 : ∀ xx ww, Erg 9 xx ww = (xx = .bool false) := fun xx ww => congrFun (congrFun (congrFun hErg 9) xx) ww
          have erg10 : ∀ xx ww, Erg 10 xx ww = (xx = .int .i64 k) := fun xx ww => congrFun (congrFun (congrFun hErg 10) xx) ww
          have erg11 : ∀ xx ww, Erg 11 xx ww = (xx = .int .i64 T) := fun xx ww => congrFun (congrFun (congrFun hErg 11) xx) ww
          have erg12 : ∀ xx ww, Erg 12 xx ww = (xx = .bool false) := fun xx ww => congrFun (congrFun (congrFun hErg 12) xx) ww
          have erg13 : ∀ xx ww, Erg 13 xx ww = (xx = .bool false) := fun xx ww => congrFun (congrFun (congrFun hErg 13) xx) ww
          have erg14 : ∀ xx ww, Erg 14 xx ww = (xx = .bool false) := fun xx ww => congrFun (congrFun (congrFun hErg 14) xx) ww
          have erg15 : ∀ xx ww, Erg 15 xx ww = (xx = undef) := fun xx ww => congrFun (congrFun (congrFun hErg 15) xx) ww
          have erg16 : ∀ xx ww, Erg 16 xx ww = (xx = undef) := fun xx ww => congrFun (congrFun (congrFun hErg 16) xx) ww
          have erg17 : ∀ xx ww, Erg 17 xx ww = (xx = undef) := fun xx ww => congrFun (congrFun (congrFun hErg 17) xx) ww
          have erg18 : ∀ xx ww, Erg 18 xx ww = (xx = undef) := fun xx ww => congrFun (congrFun (congrFun hErg 18) xx) ww
          have erg19 : ∀ xx ww, Erg 19 xx ww = (xx = undef) := fun xx ww => congrFun (congrFun (congrFun hErg 19) xx) ww
          have erg20 : ∀ xx ww, Erg 20 xx ww = (xx = undef) := fun xx ww => congrFun (congrFun (congrFun hErg 20) xx) ww
          have erg21 : ∀ xx ww, Erg 21 xx ww = (xx = undef) := fun xx ww => congrFun (congrFun (congrFun hErg 21) xx) ww
          have erg22 : ∀ xx ww, Erg 22 xx ww = (xx = undef) := fun xx ww => congrFun (congrFun (congrFun hErg 22) xx) ww
          have erg23 : ∀ xx ww, Erg 23 xx ww = (xx = undef) := fun xx ww => congrFun (congrFun (congrFun hErg 23) xx) ww
          have erg24 : ∀ xx ww, Erg 24 xx ww = (xx = .bool false) := fun xx ww => congrFun (congrFun (congrFun hErg 24) xx) ww
          obtain ⟨Crg, hCrg⟩ : ∃ CC : Array Bool → World → Prop, CC = fun L8 w' => Below W6.heap.size W6 w' := ⟨_, rfl⟩
          have krg : ∀ i L w,  Crg L w → Crg (L.setIfInBounds i true) w := by
            intro i L w  h
            rw [hCrg] at h ⊢
            exact h
          obtain ⟨Xrg, hXrg⟩ : ∃ XX : World → World → Prop, XX = fun x y => Below x.heap.size x y := ⟨_, rfl⟩
          have xrg : ∀ w, Xrg w w := fun w => by rw [hXrg]; exact Below.refl _ _
          have strg : ∀ j x w w1, Xrg w w1 → Erg j x w → Erg j x w1 := by
            intro j x w w1 hx h
            rw [hXrg] at hx
            match j with
            | 0 => rw [erg0] at h ⊢; exact h
            | 1 => rw [erg1] at h ⊢; exact h
            | 2 => rw [erg2] at h ⊢; exact h
            | 3 => rw [erg3] at h ⊢; exact h
            | 4 => rw [erg4] at h ⊢; exact h
            | 5 => rw [erg5] at h ⊢; exact h
            | 6 => rw [erg6] at h ⊢; exact h
            | 7 => rw [erg7] at h ⊢; exact h
            | 8 => rw [erg8] at h ⊢; exact h
            | 9 => rw [erg9] at h ⊢; exact h
            | 10 => rw [erg10] at h ⊢; exact h
            | 11 => rw [erg11] at h ⊢; exact h
            | 12 => rw [erg12] at h ⊢; exact h
            | 13 => rw [erg13] at h ⊢; exact h
            | 14 => rw [erg14] at h ⊢; exact h
            | 15 => rw [erg15] at h ⊢; exact h
            | 16 => rw [erg16] at h ⊢; exact h
            | 17 => rw [erg17] at h ⊢; exact h
            | 18 => rw [erg18] at h ⊢; exact h
            | 19 => rw [erg19] at h ⊢; exact h
            | 20 => rw [erg20] at h ⊢; exact h
            | 21 => rw [erg21] at h ⊢; exact h
            | 22 => rw [erg22] at h ⊢; exact h
            | 23 => rw [erg23] at h ⊢; exact h
            | 24 => rw [erg24] at h ⊢; exact h
            | j + 25 => rw [hErg]; trivial
          have crg : Crg (Array.replicate 25 false) W6.drew := by rw [hCrg]; exact (Below.refl _ _).drew
          have brg : ∀ L w w1, Crg L w → Below w.heap.size w w1 → Crg L w1 := by
            intro L w w1 h hb
            rw [hCrg] at h ⊢
            exact h.trans (hb.mono h.size)
          have xbrg : ∀ w w1, Below w.heap.size w w1 → Xrg w w1 := by
            intro w w1 hb
            rw [hXrg]
            exact hb
          have Hrgb := Lib.hid brg
          have Hrgxb := Lib.hid xbrg
          clear brg xbrg
          clear hErg
          have Hrgk := Lib.hid krg
          have Hrgx := Lib.hid xrg
          have Hrgst := Lib.hid strg
          have Hrgc := Lib.hid crg
          have HrghC := Lib.hid hCrg
          have HrghX := Lib.hid hXrg
          have Hrge0 := Lib.hid erg0
          have Hrge1 := Lib.hid erg1
          have Hrge2 := Lib.hid erg2
          have Hrge3 := Lib.hid erg3
          have Hrge4 := Lib.hid erg4
          have Hrge5 := Lib.hid erg5
          have Hrge6 := Lib.hid erg6
          have Hrge7 := Lib.hid erg7
          have Hrge8 := Lib.hid erg8
          have Hrge9 := Lib.hid erg9
          have Hrge10 := Lib.hid erg10
          have Hrge11 := Lib.hid erg11
          have Hrge12 := Lib.hid erg12
          have Hrge13 := Lib.hid erg13
          have Hrge14 := Lib.hid erg14
          have Hrge15 := Lib.hid erg15
          have Hrge16 := Lib.hid erg16
          have Hrge17 := Lib.hid erg17
          have Hrge18 := Lib.hid erg18
          have Hrge19 := Lib.hid erg19
          have Hrge20 := Lib.hid erg20
          have Hrge21 := Lib.hid erg21
          have Hrge22 := Lib.hid erg22
          have Hrge23 := Lib.hid erg23
          have Hrge24 := Lib.hid erg24
          clear krg xrg strg crg hCrg hXrg erg0 erg1 erg2 erg3 erg4 erg5 erg6 erg7 erg8 erg9 erg10 erg11 erg12 erg13 erg14 erg15 erg16 erg17 erg18 erg19 erg20 erg21 erg22 erg23 erg24
          go_wp2_with fail
          refine Reg.regionF Erg Crg Xrg Hrgst.out (by kernel_rfl) (by kernel_rfl) (by kernel_rfl) Hrgc.out (fun Frg hFrg => ?_)
          simp only [Reg.frame, Reg.dsts, List.map_cons, List.map_nil, Mix.put_lit, List.set_cons_succ, List.set_cons_zero, Nat.zero_add, Nat.reduceAdd] at hFrg
          refine ⟨?_, ?_⟩
          · refine ⟨?_, ?_, ?_, ?_, ?_, ?_, ?_, ?_, ?_, ?_, ?_, ?_, ?_, ?_, ?_, ?_, ?_, ?_, ?_, ?_, ?_, ?_, ?_, ?_, ?_, trivial⟩
            · intro Lq wq xq hh
              simp only [hFrg]
              refine .inl ⟨rfl, ?_⟩
              unfold Reg.upon
              have hk := Hrgk.out 0 Lq wq  hh.cls
              have hx := Hrgx.out wq
              have he : Erg 0 (.int .i64 F) wq := by rw [Hrge0.out]
              have HK := Lib.hid (And.intro hk (And.intro he hx))
              clear hk hx he
              go_simp
              exact HK.out
            · intro Lq wq xq hh
              simp only [hFrg]
              refine .inl ⟨rfl, ?_⟩
              unfold Reg.upon
              have hk := Hrgk.out 1 Lq wq  hh.cls
              have hx := Hrgx.out wq
              have he : Erg 1 (.int .i64 T) wq := by rw [Hrge1.out]
              have HK := Lib.hid (And.intro hk (And.intro he hx))
              clear hk hx he
              go_simp
              exact HK.out
            · intro Lq wq xq hh
              have d0 : Erg 0 (xq 0) wq := hh.val 0 (by kernel_rfl) (by kernel_rfl)
              rw [Hrge0.out] at d0
              have d1 : Erg 1 (xq 1) wq := hh.val 1 (by kernel_rfl) (by kernel_rfl)
              rw [Hrge1.out] at d1
              simp only [hFrg, d0, d1]
              clear d0 d1
              refine .inl ⟨rfl, ?_⟩
              unfold Reg.upon
              have hk := Hrgk.out 2 Lq wq  hh.cls
              have hx := Hrgx.out wq
              have he : Erg 2 (.bool false) wq := by rw [Hrge2.out]
              have HK := Lib.hid (And.intro hk (And.intro he hx))
              clear hk hx he
              go_simp
              exact HK.out
            · intro Lq wq xq hh
              have d2 : Erg 2 (xq 2) wq := hh.val 2 (by kernel_rfl) (by kernel_rfl)
              rw [Hrge2.out] at d2
              simp only [hFrg, d2]
              clear d2
              refine .inl ⟨rfl, ?_⟩
              unfold Reg.upon
              have hk := Hrgk.out 3 Lq wq  hh.cls
              have hx := Hrgx.out wq
              have he : Erg 3 (.bool false) wq := by rw [Hrge3.out]
              have HK := Lib.hid (And.intro hk (And.intro he hx))
              clear hk hx he
              go_simp
              exact HK.out
            · intro Lq wq xq hh
              have d3 : Erg 3 (xq 3) wq := hh.val 3 (by kernel_rfl) (by kernel_rfl)
              rw [Hrge3.out] at d3
              simp only [hFrg, d3]
              clear d3
              refine .inl ⟨rfl, ?_⟩
              unfold Reg.upon
              have hk := Hrgk.out 4 Lq wq  hh.cls
              have hx := Hrgx.out wq
              have he : Erg 4 (.int .i64 k) wq := by rw [Hrge4.out]
              have HK := Lib.hid (And.intro hk (And.intro he hx))
              clear hk hx he
              go_simp
              exact HK.out
            · intro Lq wq xq hh
              have d3 : Erg 3 (xq 3) wq := hh.val 3 (by kernel_rfl) (by kernel_rfl)
              rw [Hrge3.out] at d3
              have d4 : Erg 4 (xq 4) wq := hh.val 4 (by kernel_rfl) (by kernel_rfl)
              rw [Hrge4.out] at d4
              simp only [hFrg, d3, d4]
              clear d3 d4
              refine .inl ⟨rfl, ?_⟩
              unfold Reg.upon
              have hk := Hrgk.out 5 Lq wq  hh.cls
              have hx := Hrgx.out wq
              have he : Erg 5 (.int .i64 ((k : Int) + 1)) wq := by rw [Hrge5.out]
              have HK := Lib.hid (And.intro hk (And.intro he hx))
              clear hk hx he
              go_simp
              exact HK.out
            · intro Lq wq xq hh
              have d3 : Erg 3 (xq 3) wq := hh.val 3 (by kernel_rfl) (by kernel_rfl)
              rw [Hrge3.out] at d3
              simp only [hFrg, d3]
              clear d3
              refine .inl ⟨rfl, ?_⟩
              unfold Reg.upon
              have hk := Hrgk.out 6 Lq wq  hh.cls
              have hx := Hrgx.out wq
              have he : Erg 6 (.int .i64 F) wq := by rw [Hrge6.out]
              have HK := Lib.hid (And.intro hk (And.intro he hx))
              clear hk hx he
              go_simp
              exact HK.out
            · intro Lq wq xq hh
              have d3 : Erg 3 (xq 3) wq := hh.val 3 (by kernel_rfl) (by kernel_rfl)
              rw [Hrge3.out] at d3
              have d5 : Erg 5 (xq 5) wq := hh.val 5 (by kernel_rfl) (by kernel_rfl)
              rw [Hrge5.out] at d5
              have d6 : Erg 6 (xq 6) wq := hh.val 6 (by kernel_rfl) (by kernel_rfl)
              rw [Hrge6.out] at d6
              simp only [hFrg, d3, d5, d6]
              clear d3 d5 d6
              refine .inl ⟨rfl, ?_⟩
              unfold Reg.upon
              have hk := Hrgk.out 7 Lq wq  hh.cls
              have hx := Hrgx.out wq
              have he : Erg 7 (.bool false) wq := by rw [Hrge7.out]
              have HK := Lib.hid (And.intro hk (And.intro he hx))
              clear hk hx he
              go_simp
              exact HK.out
            · intro Lq wq xq hh
              have d3 : Erg 3 (xq 3) wq := hh.val 3 (by kernel_rfl) (by kernel_rfl)
              rw [Hrge3.out] at d3
              have d7 : Erg 7 (xq 7) wq := hh.val 7 (by kernel_rfl) (by kernel_rfl)
              rw [Hrge7.out] at d7
              simp only [hFrg, d3, d7]
              clear d3 d7
              refine .inl ⟨rfl, ?_⟩
              unfold Reg.upon
              have hk := Hrgk.out 8 Lq wq  hh.cls
              have hx := Hrgx.out wq
              have he : Erg 8 (.bool false) wq := by rw [Hrge8.out]
              have HK := Lib.hid (And.intro hk (And.intro he hx))
              clear hk hx he
              go_simp
              exact HK.out
            · intro Lq wq xq hh
              have d8 : Erg 8 (xq 8) wq := hh.val 8 (by kernel_rfl) (by kernel_rfl)
              rw [Hrge8.out] at d8
              simp only [hFrg, d8]
              clear d8
              refine .inl ⟨rfl, ?_⟩
              unfold Reg.upon
              have hk := Hrgk.out 9 Lq wq  hh.cls
              have hx := Hrgx.out wq
              have he : Erg 9 (.bool false) wq := by rw [Hrge9.out]
              have HK := Lib.hid (And.intro hk (And.intro he hx))
              clear hk hx he
              go_simp
              exact HK.out
            · intro Lq wq xq hh
              have d9 : Erg 9 (xq 9) wq := hh.val 9 (by kernel_rfl) (by kernel_rfl)
              rw [Hrge9.out] at d9
              simp only [hFrg, d9]
              clear d9
              refine .inl ⟨rfl, ?_⟩
              unfold Reg.upon
              have hk := Hrgk.out 10 Lq wq  hh.cls
              have hx := Hrgx.out wq
              have he : Erg 10 (.int .i64 k) wq := by rw [Hrge10.out]
              have HK := Lib.hid (And.intro hk (And.intro he hx))
              clear hk hx he
              go_simp
              exact HK.out
            · intro Lq wq xq hh
              have d9 : Erg 9 (xq 9) wq := hh.val 9 (by kernel_rfl) (by kernel_rfl)
              rw [Hrge9.out] at d9
              simp only [hFrg, d9]
              clear d9
              refine .inl ⟨rfl, ?_⟩
              unfold Reg.upon
              have hk := Hrgk.out 11 Lq wq  hh.cls
              have hx := Hrgx.out wq
              have he : Erg 11 (.int .i64 T) wq := by rw [Hrge11.out]
              have HK := Lib.hid (And.intro hk (And.intro he hx))
              clear hk hx he
              go_simp
              exact HK.out
            · intro Lq wq xq hh
              have d9 : Erg 9 (xq 9) wq := hh.val 9 (by kernel_rfl) (by kernel_rfl)
              rw [Hrge9.out] at d9
              have d10 : Erg 10 (xq 10) wq := hh.val 10 (by kernel_rfl) (by kernel_rfl)
              rw [Hrge10.out] at d10
              have d11 : Erg 11 (xq 11) wq := hh.val 11 (by kernel_rfl) (by kernel_rfl)
              rw [Hrge11.out] at d11
              simp only [hFrg, d9, d10, d11]
              clear d9 d10 d11
              refine .inl ⟨rfl, ?_⟩
              unfold Reg.upon
              have hk := Hrgk.out 12 Lq wq  hh.cls
              have hx := Hrgx.out wq
              have he : Erg 12 (.bool false) wq := by rw [Hrge12.out]
              have HK := Lib.hid (And.intro hk (And.intro he hx))
              clear hk hx he
              go_simp
              exact HK.out
            · intro Lq wq xq hh
              have d9 : Erg 9 (xq 9) wq := hh.val 9 (by kernel_rfl) (by kernel_rfl)
              rw [Hrge9.out] at d9
              have d12 : Erg 12 (xq 12) wq := hh.val 12 (by kernel_rfl) (by kernel_rfl)
              rw [Hrge12.out] at d12
              simp only [hFrg, d9, d12]
              clear d9 d12
              refine .inl ⟨rfl, ?_⟩
              unfold Reg.upon
              have hk := Hrgk.out 13 Lq wq  hh.cls
              have hx := Hrgx.out wq
              have he : Erg 13 (.bool false) wq := by rw [Hrge13.out]
              have HK := Lib.hid (And.intro hk (And.intro he hx))
              clear hk hx he
              go_simp
              exact HK.out
            · intro Lq wq xq hh
              have d13 : Erg 13 (xq 13) wq := hh.val 13 (by kernel_rfl) (by kernel_rfl)
              rw [Hrge13.out] at d13
              simp only [hFrg, d13]
              clear d13
              refine .inl ⟨rfl, ?_⟩
              unfold Reg.upon
              have hk := Hrgk.out 14 Lq wq  hh.cls
              have hx := Hrgx.out wq
              have he : Erg 14 (.bool false) wq := by rw [Hrge14.out]
              have HK := Lib.hid (And.intro hk (And.intro he hx))
              clear hk hx he
              go_simp
              exact HK.out
            · intro Lq wq xq hh
              have d14 : Erg 14 (xq 14) wq := hh.val 14 (by kernel_rfl) (by kernel_rfl)
              rw [Hrge14.out] at d14
              simp only [hFrg, d14]
              clear d14
              exact .inr ⟨rfl, Hrgk.out 15 Lq wq  hh.cls, (by rw [Hrge15.out])⟩
            · intro Lq wq xq hh
              have d14 : Erg 14 (xq 14) wq := hh.val 14 (by kernel_rfl) (by kernel_rfl)
              rw [Hrge14.out] at d14
              have d15 : Erg 15 (xq 15) wq := hh.val 15 (by kernel_rfl) (by kernel_rfl)
              rw [Hrge15.out] at d15
              simp only [hFrg, d14, d15]
              clear d14 d15
              exact .inr ⟨rfl, Hrgk.out 16 Lq wq  hh.cls, (by rw [Hrge16.out])⟩
            · intro Lq wq xq hh
              have d14 : Erg 14 (xq 14) wq := hh.val 14 (by kernel_rfl) (by kernel_rfl)
              rw [Hrge14.out] at d14
              simp only [hFrg, d14]
              clear d14
              exact .inr ⟨rfl, Hrgk.out 17 Lq wq  hh.cls, (by rw [Hrge17.out])⟩
            · intro Lq wq xq hh
              have d14 : Erg 14 (xq 14) wq := hh.val 14 (by kernel_rfl) (by kernel_rfl)
              rw [Hrge14.out] at d14
              simp only [hFrg, d14]
              clear d14
              exact .inr ⟨rfl, Hrgk.out 18 Lq wq  hh.cls, (by rw [Hrge18.out])⟩
            · intro Lq wq xq hh
              have d14 : Erg 14 (xq 14) wq := hh.val 14 (by kernel_rfl) (by kernel_rfl)
              rw [Hrge14.out] at d14
              simp only [hFrg, d14]
              clear d14
              exact .inr ⟨rfl, Hrgk.out 19 Lq wq  hh.cls, (by rw [Hrge19.out])⟩
            · intro Lq wq xq hh
              have d14 : Erg 14 (xq 14) wq := hh.val 14 (by kernel_rfl) (by kernel_rfl)
              rw [Hrge14.out] at d14
              have d19 : Erg 19 (xq 19) wq := hh.val 19 (by kernel_rfl) (by kernel_rfl)
              rw [Hrge19.out] at d19
              simp only [hFrg, d14, d19]
              clear d14 d19
              exact .inr ⟨rfl, Hrgk.out 20 Lq wq  hh.cls, (by rw [Hrge20.out])⟩
            · intro Lq wq xq hh
              have d14 : Erg 14 (xq 14) wq := hh.val 14 (by kernel_rfl) (by kernel_rfl)
              rw [Hrge14.out] at d14
              have d17 : Erg 17 (xq 17) wq := hh.val 17 (by kernel_rfl) (by kernel_rfl)
              rw [Hrge17.out] at d17
              have d18 : Erg 18 (xq 18) wq := hh.val 18 (by kernel_rfl) (by kernel_rfl)
              rw [Hrge18.out] at d18
              have d20 : Erg 20 (xq 20) wq := hh.val 20 (by kernel_rfl) (by kernel_rfl)
              rw [Hrge20.out] at d20
              simp only [hFrg, d14, d17, d18, d20]
              clear d14 d17 d18 d20
              exact .inr ⟨rfl, Hrgk.out 21 Lq wq  hh.cls, (by rw [Hrge21.out])⟩
            · intro Lq wq xq hh
              have d14 : Erg 14 (xq 14) wq := hh.val 14 (by kernel_rfl) (by kernel_rfl)
              rw [Hrge14.out] at d14
              have d16 : Erg 16 (xq 16) wq := hh.val 16 (by kernel_rfl) (by kernel_rfl)
              rw [Hrge16.out] at d16
              have d21 : Erg 21 (xq 21) wq := hh.val 21 (by kernel_rfl) (by kernel_rfl)
              rw [Hrge21.out] at d21
              simp only [hFrg, d14, d16, d21]
              clear d14 d16 d21
              exact .inr ⟨rfl, Hrgk.out 22 Lq wq  hh.cls, (by rw [Hrge22.out])⟩
            · intro Lq wq xq hh
              have d14 : Erg 14 (xq 14) wq := hh.val 14 (by kernel_rfl) (by kernel_rfl)
              rw [Hrge14.out] at d14
              have d22 : Erg 22 (xq 22) wq := hh.val 22 (by kernel_rfl) (by kernel_rfl)
              rw [Hrge22.out] at d22
              simp only [hFrg, d14, d22]
              clear d14 d22
              exact .inr ⟨rfl, Hrgk.out 23 Lq wq  hh.cls, (by rw [Hrge23.out])⟩
            · intro Lq wq xq hh
              have d14 : Erg 14 (xq 14) wq := hh.val 14 (by kernel_rfl) (by kernel_rfl)
              rw [Hrge14.out] at d14
              have d23 : Erg 23 (xq 23) wq := hh.val 23 (by kernel_rfl) (by kernel_rfl)
              rw [Hrge23.out] at d23
              simp only [hFrg, d14, d23]
              clear d14 d23
              refine .inl ⟨rfl, ?_⟩
              unfold Reg.upon
              have hk := Hrgk.out 24 Lq wq  hh.cls
              have hx := Hrgx.out wq
              have he : Erg 24 (.bool false) wq := by rw [Hrge24.out]
              have HK := Lib.hid (And.intro hk (And.intro he hx))
              clear hk hx he
              go_simp
              exact HK.out
          intro xq wrg hcrg hvrg
          rw [HrghC.out] at hcrg
          simp only [hFrg]
          have vrg24 : Erg 24 (xq 24) wrg := hvrg 24 (by decide)
          rw [Hrge24.out] at vrg24
          rw [vrg24]
          clear hvrg hFrg Hrgk Hrgx Hrgst Hrgc HrghC HrghX Hrgb Hrgxb Hrge0 Hrge1 Hrge2 Hrge3 Hrge4 Hrge5 Hrge6 Hrge7 Hrge8 Hrge9 Hrge10 Hrge11 Hrge12 Hrge13 Hrge14 Hrge15 Hrge16 Hrge17 Hrge18 Hrge19 Hrge20 Hrge21 Hrge22 Hrge23 Hrge24
          obtain ⟨w7, hw7⟩ : ∃ w7, w7 = wrg := ⟨_, rfl⟩
          rw [← hw7] at hcrg ⊢
          clear hw7 vrg24
          replace B := Lib.hid (B.out.trans (hcrg.mono B.out.size))
          replace R := Lib.hid (R.out.below hcrg)
          clear hcrg
          go_wp2
          go_roundw
          case rel => exact ⟨k + 1, by omega, by go_num, R.out, B.out⟩
          case measure => simp [intOf] <;> omega
      have d3 : decide ((F : Int) ≤ k) = true := by simp; omega
      have d4 : decide ((k : Int) + 1 < F) = false := by simp; omega
      by_cases hD : k < T
      · have d5 : decide ((k : Int) < T) = true := by simp; omega
        have d6 : decide ((T : Int) < k) = false := by simp; omega
        have d6n : decide (T < k) = false := by simp; omega
        have hK0 : K = 0 := hf1 (by omega) (by omega) hD
        subst hK0
        clear hf1 hf2
        have HC2 := HC
        clear HC
        go_wp2_with fail
        refine HC2.out.mono ?_
        rintro e w5 ⟨tv, rfl, h5, b5⟩
        obtain ⟨ta, tc, rfl⟩ := h5.len
        go_upto_region 14 with (fail)
        obtain ⟨W6, hW6⟩ : ∃ W6, W6 = w5.alloc (.cells #[.int .i64 0, .slice ta X.length tc] 27) := ⟨_, rfl⟩
        have b6 : Below w5.heap.size w5 W6 := by rw [hW6]; exact (Below.refl _ _).alloc (Nat.le_refl _) _
        have hit : Has W6 w5.heap.size [.int .i64 0, .slice ta X.length tc] 27 := by rw [hW6]; exact Has.new w5 _ _
        rw [← hW6]
        have HT6 := Lib.hid (h5.below b6)
        have HIT := Lib.hid hit
        have b56 := b5.trans (b6.mono b5.size)
        have HSZ := Lib.hid hit.lt
        replace R := Lib.hid (R.out.below b56)
        replace B := Lib.hid (B.out.trans (b56.mono B.out.size))
        clear h5 b5 b6 hit hW6 b56 HC2
        obtain ⟨Erg, hErg⟩ : ∃ EE : Nat → Value → World → Prop, EE = fun jj xx ww => match jj with
            | 0 => xx = .int .i64 F
            | 1 => xx = .int .i64 T
            | 2 => xx = .bool false
            | 3 => xx = .bool false
            | 4 => xx = .int .i64 k
            | 5 => xx = .int .i64 ((k : Int) + 1)
            | 6 => xx = .int .i64 F
            | 7 => xx = .bool false
            | 8 => xx = .bool false
            | 9 => xx = .bool false
            | 10 => xx = .int .i64 k
            | 11 => xx = .int .i64 T
            | 12 => xx = .bool false
            | 13 => xx = .bool false
            | 14 => xx = .bool false
            | 15 => xx = undef
            | 16 => xx = undef
            | 17 => xx = undef
            | 18 => xx = undef
            | 19 => xx = undef
            | 20 => xx = undef
            | 21 => xx = undef
            | 22 => xx = undef
            | 23 => xx = undef
            | 24 => xx = .bool false
            | _ => True := ⟨_, rfl⟩
        have erg0 : ∀ xx ww, Erg 0 xx ww = (xx = .int .i64 F) := fun xx ww => congrFun (congrFun (congrFun hErg 0) xx) ww
        have erg1 : ∀ xx ww, Erg 1 xx ww = (xx = .int .i64 T) := fun xx ww => congrFun (congrFun (congrFun hErg 1) xx) ww
        have erg2 : ∀ xx ww, Erg 2 xx ww = (xx = .bool false) := fun xx ww => congrFun (congrFun (congrFun hErg 2) xx) ww
        have erg3 : ∀ xx ww, Erg 3 xx ww = (xx = .bool false) := fun xx ww => congrFun (congrFun (congrFun hErg 3) xx) ww
        have erg4 : ∀ xx ww, Erg 4 xx ww = (xx = .int .i64 k) := fun xx ww => congrFun (congrFun (congrFun hErg 4) xx) ww
        have erg5 : ∀ xx ww, Erg 5 xx ww = (xx = .int .i64 ((k : Int) + 1)) := fun xx ww => congrFun (congrFun (congrFun hErg 5) xx) ww
        have erg6 : ∀ xx ww, Erg 6 xx ww = (xx = .int .i64 F) := fun xx ww => congrFun (congrFun (congrFun hErg 6) xx) ww
        have erg7 : ∀ xx ww, Erg 7 xx ww = (xx = .bool false) := fun xx ww => congrFun (congrFun (congrFun hErg 7) xx) ww
        have erg8 : ∀ xx ww, Erg 8 xx ww = (xx = .bool false) := fun xx ww => congrFun (congrFun (congrFun hErg 8) xx) ww
        have erg9 : ∀ xx ww, Erg 9 xx ww = (xx = .bool false) := fun xx ww => congrFun (congrFun (congrFun hErg 9) xx) ww
        have erg10 : ∀ xx ww, Erg 10 xx ww = (xx = .int .i64 k) := fun xx ww => congrFun (congrFun (congrFun hErg 10) xx) ww
        have erg11 : ∀ xx ww, Erg 11 xx ww = (xx = .int .i64 T) := fun xx ww => congrFun (congrFun (congrFun hErg 11) xx) ww
        have erg12 : ∀ xx ww, Erg 12 xx ww = (xx = .bool false) := fun xx ww => congrFun (congrFun (congrFun hErg 12) xx) ww
        have erg13 : ∀ xx ww, Erg 13 xx ww = (xx = .bool false) := fun xx ww => congrFun (congrFun (congrFun hErg 13) xx) ww
        have erg14 : ∀ xx ww, Erg 14 xx ww = (xx = .bool false) := fun xx ww => congrFun (congrFun (congrFun hErg 14) xx) ww
        have erg15 : ∀ xx ww, Erg 15 xx ww = (xx = undef) := fun xx ww => congrFun (congrFun (congrFun hErg 15) xx) ww
        have erg16 : ∀ xx ww, Erg 16 xx ww = (xx = undef) := fun xx ww => congrFun (congrFun (congrFun hErg 16) xx) ww
        have erg17 : ∀ xx ww, Erg 17 xx ww = (xx = undef) := fun xx ww => congrFun (congrFun (congrFun hErg 17) xx) ww
        have erg18 : ∀ xx ww, Erg 18 xx ww = (xx = undef) := fun xx ww => congrFun (congrFun (congrFun hErg 18) xx) ww
        have erg19 : ∀ xx ww, Erg 19 xx ww = (xx = undef) := fun xx ww => congrFun (congrFun (congrFun hErg 19) xx) ww
        have erg20 : ∀ xx ww, Erg 20 xx ww = (xx = undef) := fun xx ww => congrFun (congrFun (congrFun hErg 20) xx) ww
        have erg21 : ∀ xx ww, Erg 21 xx ww = (xx = undef) := fun xx ww => congrFun (congrFun (congrFun hErg 21) xx) ww
        have erg22 : ∀ xx ww, Erg 22 xx ww = (xx = undef) := fun xx ww => congrFun (congrFun (congrFun hErg 22) xx) ww
        have erg23 : ∀ xx ww, Erg 23 xx ww = (xx = undef) := fun xx ww => congrFun (congrFun (congrFun hErg 23) xx) ww
        have erg24 : ∀ xx ww, Erg 24 xx ww = (xx = .bool false) := fun xx ww => congrFun (congrFun (congrFun hErg 24) xx) ww
        obtain ⟨Crg, hCrg⟩ : ∃ CC : Array Bool → World → Prop, CC = fun L8 w' => Below W6.heap.size W6 w' := ⟨_, rfl⟩
        have krg : ∀ i L w,  Crg L w → Crg (L.setIfInBounds i true) w := by
          intro i L w  h
          rw [hCrg] at h ⊢
          exact h
        obtain ⟨Xrg, hXrg⟩ : ∃ XX : World → World → Prop, XX = fun x y => Below x.heap.size x y := ⟨_, rfl⟩
        have xrg : ∀ w, Xrg w w := fun w => by rw [hXrg]; exact Below.refl _ _
        have strg : ∀ j x w w1, Xrg w w1 → Erg j x w → Erg j x w1 := by
          intro j x w w1 hx h
          rw [hXrg] at hx
          match j with
          | 0 => rw [erg0] at h ⊢; exact h
          | 1 => rw [erg1] at h ⊢; exact h
          | 2 => rw [erg2] at h ⊢; exact h
          | 3 => rw [erg3] at h ⊢; exact h
          | 4 => rw [erg4] at h ⊢; exact h
          | 5 => rw [erg5] at h ⊢; exact h
          | 6 => rw [erg6] at h ⊢; exact h
          | 7 => rw [erg7] at h ⊢; exact h
          | 8 => rw [erg8] at h ⊢; exact h
          | 9 => rw [erg9] at h ⊢; exact h
          | 10 => rw [erg10] at h ⊢; exact h
          | 11 => rw [erg11] at h ⊢; exact h
          | 12 => rw [erg12] at h ⊢; exact h
          | 13 => rw [erg13] at h ⊢; exact h
          | 14 => rw [erg14] at h ⊢; exact h
          | 15 => rw [erg15] at h ⊢; exact h
          | 16 => rw [erg16] at h ⊢; exact h
          | 17 => rw [erg17] at h ⊢; exact h
          | 18 => rw [erg18] at h ⊢; exact h
          | 19 => rw [erg19] at h ⊢; exact h
          | 20 => rw [erg20] at h ⊢; exact h
          | 21 => rw [erg21] at h ⊢; exact h
          | 22 => rw [erg22] at h ⊢; exact h
          | 23 => rw [erg23] at h ⊢; exact h
          | 24 => rw [erg24] at h ⊢; exact h
          | j + 25 => rw [hErg]; trivial
        have crg : Crg (Array.replicate 25 false) W6.drew := by rw [hCrg]; exact (Below.refl _ _).drew
        have brg : ∀ L w w1, Crg L w → Below w.heap.size w w1 → Crg L w1 := by
          intro L w w1 h hb
          rw [hCrg] at h ⊢
          exact h.trans (hb.mono h.size)
        have xbrg : ∀ w w1, Below w.heap.size w w1 → Xrg w w1 := by
          intro w w1 hb
          rw [hXrg]
          exact hb
        have Hrgb := Lib.hid brg
        have Hrgxb := Lib.hid xbrg
        clear brg xbrg
        clear hErg
        have Hrgk := Lib.hid krg
        have Hrgx := Lib.hid xrg
        have Hrgst := Lib.hid strg
        have Hrgc := Lib.hid crg
        have HrghC := Lib.hid hCrg
        have HrghX := Lib.hid hXrg
        have Hrge0 := Lib.hid erg0
        have Hrge1 := Lib.hid erg1
        have Hrge2 := Lib.hid erg2
        have Hrge3 := Lib.hid erg3
        have Hrge4 := Lib.hid erg4
        have Hrge5 := Lib.hid erg5
        have Hrge6 := Lib.hid erg6
        have Hrge7 := Lib.hid erg7
        have Hrge8 := Lib.hid erg8
        have Hrge9 := Lib.hid erg9
        have Hrge10 := Lib.hid erg10
        have Hrge11 := Lib.hid erg11
        have Hrge12 := Lib.hid erg12
        have Hrge13 := Lib.hid erg13
        have Hrge14 := Lib.hid erg14
        have Hrge15 := Lib.hid erg15
        have Hrge16 := Lib.hid erg16
        have Hrge17 := Lib.hid erg17
        have Hrge18 := Lib.hid erg18
        have Hrge19 := Lib.hid erg19
        have Hrge20 := Lib.hid erg20
        have Hrge21 := Lib.hid erg21
        have Hrge22 := Lib.hid erg22
        have Hrge23 := Lib.hid erg23
        have Hrge24 := Lib.hid erg24
        clear krg xrg strg crg hCrg hXrg erg0 erg1 erg2 erg3 erg4 erg5 erg6 erg7 erg8 erg9 erg10 erg11 erg12 erg13 erg14 erg15 erg16 erg17 erg18 erg19 erg20 erg21 erg22 erg23 erg24
        go_wp2_with fail
        refine Reg.regionF Erg Crg Xrg Hrgst.out (by kernel_rfl) (by kernel_rfl) (by kernel_rfl) Hrgc.out (fun Frg hFrg => ?_)
        simp only [Reg.frame, Reg.dsts, List.map_cons, List.map_nil, Mix.put_lit, List.set_cons_succ, List.set_cons_zero, Nat.zero_add, Nat.reduceAdd] at hFrg
        refine ⟨?_, ?_⟩
        · refine ⟨?_, ?_, ?_, ?_, ?_, ?_, ?_, ?_, ?_, ?_, ?_, ?_, ?_, ?_, ?_, ?_, ?_, ?_, ?_, ?_, ?_, ?_, ?_, ?_, ?_, trivial⟩
          · intro Lq wq xq hh
            simp only [hFrg]
            refine .inl ⟨rfl, ?_⟩
            unfold Reg.upon
            have hk := Hrgk.out 0 Lq wq  hh.cls
            have hx := Hrgx.out wq
            have he : Erg 0 (.int .i64 F) wq := by rw [Hrge0.out]
            have HK := Lib.hid (And.intro hk (And.intro he hx))
            clear hk hx he
            go_simp
            exact HK.out
          · intro Lq wq xq hh
            simp only [hFrg]
            refine .inl ⟨rfl, ?_⟩
            unfold Reg.upon
            have hk := Hrgk.out 1 Lq wq  hh.cls
            have hx := Hrgx.out wq
            have he : Erg 1 (.int .i64 T) wq := by rw [Hrge1.out]
            have HK := Lib.hid (And.intro hk (And.intro he hx))
            clear hk hx he
            go_simp
            exact HK.out
          · intro Lq wq xq hh
            have d0 : Erg 0 (xq 0) wq := hh.val 0 (by kernel_rfl) (by kernel_rfl)
            rw [Hrge0.out] at d0
            have d1 : Erg 1 (xq 1) wq := hh.val 1 (by kernel_rfl) (by kernel_rfl)
            rw [Hrge1.out] at d1
            simp only [hFrg, d0, d1]
            clear d0 d1
            refine .inl ⟨rfl, ?_⟩
            unfold Reg.upon
            have hk := Hrgk.out 2 Lq wq  hh.cls
            have hx := Hrgx.out wq
            have he : Erg 2 (.bool false) wq := by rw [Hrge2.out]
            have HK := Lib.hid (And.intro hk (And.intro he hx))
            clear hk hx he
            go_simp
            exact HK.out
          · intro Lq wq xq hh
            have d2 : Erg 2 (xq 2) wq := hh.val 2 (by kernel_rfl) (by kernel_rfl)
            rw [Hrge2.out] at d2
            simp only [hFrg, d2]
            clear d2
            refine .inl ⟨rfl, ?_⟩
            unfold Reg.upon
            have hk := Hrgk.out 3 Lq wq  hh.cls
            have hx := Hrgx.out wq
            have he : Erg 3 (.bool false) wq := by rw [Hrge3.out]
            have HK := Lib.hid (And.intro hk (And.intro he hx))
            clear hk hx he
            go_simp
            exact HK.out
          · intro Lq wq xq hh
            have d3 : Erg 3 (xq 3) wq := hh.val 3 (by kernel_rfl) (by kernel_rfl)
            rw [Hrge3.out] at d3
            simp only [hFrg, d3]
            clear d3
            refine .inl ⟨rfl, ?_⟩
            unfold Reg.upon
            have hk := Hrgk.out 4 Lq wq  hh.cls
            have hx := Hrgx.out wq
            have he : Erg 4 (.int .i64 k) wq := by rw [Hrge4.out]
            have HK := Lib.hid (And.intro hk (And.intro he hx))
            clear hk hx he
            go_simp
            exact HK.out
          · intro Lq wq xq hh
            have d3 : Erg 3 (xq 3) wq := hh.val 3 (by kernel_rfl) (by kernel_rfl)
            rw [Hrge3.out] at d3
            have d4 : Erg 4 (xq 4) wq := hh.val 4 (by kernel_rfl) (by kernel_rfl)
            rw [Hrge4.out] at d4
            simp only [hFrg, d3, d4]
            clear d3 d4
            refine .inl ⟨rfl, ?_⟩
            unfold Reg.upon
            have hk := Hrgk.out 5 Lq wq  hh.cls
            have hx := Hrgx.out wq
            have he : Erg 5 (.int .i64 ((k : Int) + 1)) wq := by rw [Hrge5.out]
            have HK := Lib.hid (And.intro hk (And.intro he hx))
            clear hk hx he
            go_simp
            exact HK.out
          · intro Lq wq xq hh
            have d3 : Erg 3 (xq 3) wq := hh.val 3 (by kernel_rfl) (by kernel_rfl)
            rw [Hrge3.out] at d3
            simp only [hFrg, d3]
            clear d3
            refine .inl ⟨rfl, ?_⟩
            unfold Reg.upon
            have hk := Hrgk.out 6 Lq wq  hh.cls
            have hx := Hrgx.out wq
            have he : Erg 6 (.int .i64 F) wq := by rw [Hrge6.out]
            have HK := Lib.hid (And.intro hk (And.intro he hx))
            clear hk hx he
            go_simp
            exact HK.out
          · intro Lq wq xq hh
            have d3 : Erg 3 (xq 3) wq := hh.val 3 (by kernel_rfl) (by kernel_rfl)
            rw [Hrge3.out] at d3
            have d5 : Erg 5 (xq 5) wq := hh.val 5 (by kernel_rfl) (by kernel_rfl)
            rw [Hrge5.out] at d5
            have d6 : Erg 6 (xq 6) wq := hh.val 6 (by kernel_rfl) (by kernel_rfl)
            rw [Hrge6.out] at d6
            simp only [hFrg, d3, d5, d6]
            clear d3 d5 d6
            refine .inl ⟨rfl, ?_⟩
            unfold Reg.upon
            have hk := Hrgk.out 7 Lq wq  hh.cls
            have hx := Hrgx.out wq
            have he : Erg 7 (.bool false) wq := by rw [Hrge7.out]
            have HK := Lib.hid (And.intro hk (And.intro he hx))
            clear hk hx he
            go_simp
            exact HK.out
          · intro Lq wq xq hh
            have d3 : Erg 3 (xq 3) wq := hh.val 3 (by kernel_rfl) (by kernel_rfl)
            rw [Hrge3.out] at d3
            have d7 : Erg 7 (xq 7) wq := hh.val 7 (by kernel_rfl) (by kernel_rfl)
            rw [Hrge7.out] at d7
            simp only [hFrg, d3, d7]
            clear d3 d7
            refine .inl ⟨rfl, ?_⟩
            unfold Reg.upon
            have hk := Hrgk.out 8 Lq wq  hh.cls
            have hx := Hrgx.out wq
            have he : Erg 8 (.bool false) wq := by rw [Hrge8.out]
            have HK := Lib.hid (And.intro hk (And.intro he hx))
            clear hk hx he
            go_simp
            exact HK.out
          · intro Lq wq xq hh
            have d8 : Erg 8 (xq 8) wq := hh.val 8 (by kernel_rfl) (by kernel_rfl)
            rw [Hrge8.out] at d8
            simp only [hFrg, d8]
            clear d8
            refine .inl ⟨rfl, ?_⟩
            unfold Reg.upon
            have hk := Hrgk.out 9 Lq wq  hh.cls
            have hx := Hrgx.out wq
            have he : Erg 9 (.bool false) wq := by rw [Hrge9.out]
            have HK := Lib.hid (And.intro hk (And.intro he hx))
            clear hk hx he
            go_simp
            exact HK.out
          · intro Lq wq xq hh
            have d9 : Erg 9 (xq 9) wq := hh.val 9 (by kernel_rfl) (by kernel_rfl)
            rw [Hrge9.out] at d9
            simp only [hFrg, d9]
            clear d9
            refine .inl ⟨rfl, ?_⟩
            unfold Reg.upon
            have hk := Hrgk.out 10 Lq wq  hh.cls
            have hx := Hrgx.out wq
            have he : Erg 10 (.int .i64 k) wq := by rw [Hrge10.out]
            have HK := Lib.hid (And.intro hk (And.intro he hx))
            clear hk hx he
            go_simp
            exact HK.out
          · intro Lq wq xq hh
            have d9 : Erg 9 (xq 9) wq := hh.val 9 (by kernel_rfl) (by kernel_rfl)
            rw [Hrge9.out] at d9
            simp only [hFrg, d9]
            clear d9
            refine .inl ⟨rfl, ?_⟩
            unfold Reg.upon
            have hk := Hrgk.out 11 Lq wq  hh.cls
            have hx := Hrgx.out wq
            have he : Erg 11 (.int .i64 T) wq := by rw [Hrge11.out]
            have HK := Lib.hid (And.intro hk (And.intro he hx))
            clear hk hx he
            go_simp
            exact HK.out
          · intro Lq wq xq hh
            have d9 : Erg 9 (xq 9) wq := hh.val 9 (by kernel_rfl) (by kernel_rfl)
            rw [Hrge9.out] at d9
            have d10 : Erg 10 (xq 10) wq := hh.val 10 (by kernel_rfl) (by kernel_rfl)
            rw [Hrge10.out] at d10
            have d11 : Erg 11 (xq 11) wq := hh.val 11 (by kernel_rfl) (by kernel_rfl)
            rw [Hrge11.out] at d11
            simp only [hFrg, d9, d10, d11]
            clear d9 d10 d11
            refine .inl ⟨rfl, ?_⟩
            unfold Reg.upon
            have hk := Hrgk.out 12 Lq wq  hh.cls
            have hx := Hrgx.out wq
            have he : Erg 12 (.bool false) wq := by rw [Hrge12.out]
            have HK := Lib.hid (And.intro hk (And.intro he hx))
            clear hk hx he
            go_simp
            exact HK.out
          · intro Lq wq xq hh
            have d9 : Erg 9 (xq 9) wq := hh.val 9 (by kernel_rfl) (by kernel_rfl)
            rw [Hrge9.out] at d9
            have d12 : Erg 12 (xq 12) wq := hh.val 12 (by kernel_rfl) (by kernel_rfl)
            rw [Hrge12.out] at d12
            simp only [hFrg, d9, d12]
            clear d9 d12
            refine .inl ⟨rfl, ?_⟩
            unfold Reg.upon
            have hk := Hrgk.out 13 Lq wq  hh.cls
            have hx := Hrgx.out wq
            have he : Erg 13 (.bool false) wq := by rw [Hrge13.out]
            have HK := Lib.hid (And.intro hk (And.intro he hx))
            clear hk hx he
            go_simp
            exact HK.out
          · intro Lq wq xq hh
            have d13 : Erg 13 (xq 13) wq := hh.val 13 (by kernel_rfl) (by kernel_rfl)
            rw [Hrge13.out] at d13
            simp only [hFrg, d13]
            clear d13
            refine .inl ⟨rfl, ?_⟩
            unfold Reg.upon
            have hk := Hrgk.out 14 Lq wq  hh.cls
            have hx := Hrgx.out wq
            have he : Erg 14 (.bool false) wq := by rw [Hrge14.out]
            have HK := Lib.hid (And.intro hk (And.intro he hx))
            clear hk hx he
            go_simp
            exact HK.out
          · intro Lq wq xq hh
            have d14 : Erg 14 (xq 14) wq := hh.val 14 (by kernel_rfl) (by kernel_rfl)
            rw [Hrge14.out] at d14
            simp only [hFrg, d14]
            clear d14
            exact .inr ⟨rfl, Hrgk.out 15 Lq wq  hh.cls, (by rw [Hrge15.out])⟩
          · intro Lq wq xq hh
            have d14 : Erg 14 (xq 14) wq := hh.val 14 (by kernel_rfl) (by kernel_rfl)
            rw [Hrge14.out] at d14
            have d15 : Erg 15 (xq 15) wq := hh.val 15 (by kernel_rfl) (by kernel_rfl)
            rw [Hrge15.out] at d15
            simp only [hFrg, d14, d15]
            clear d14 d15
            exact .inr ⟨rfl, Hrgk.out 16 Lq wq  hh.cls, (by rw [Hrge16.out])⟩
          · intro Lq wq xq hh
            have d14 : Erg 14 (xq 14) wq := hh.val 14 (by kernel_rfl) (by kernel_rfl)
            rw [Hrge14.out] at d14
            simp only [hFrg, d14]
            clear d14
            exact .inr ⟨rfl, Hrgk.out 17 Lq wq  hh.cls, (by rw [Hrge17.out])⟩
          · intro Lq wq xq hh
            have d14 : Erg 14 (xq 14) wq := hh.val 14 (by kernel_rfl) (by kernel_rfl)
            rw [Hrge14.out] at d14
            simp only [hFrg, d14]
            clear d14
            exact .inr ⟨rfl, Hrgk.out 18 Lq wq  hh.cls, (by rw [Hrge18.out])⟩
          · intro Lq wq xq hh
            have d14 : Erg 14 (xq 14) wq := hh.val 14 (by kernel_rfl) (by kernel_rfl)
            rw [Hrge14.out] at d14
            simp only [hFrg, d14]
            clear d14
            exact .inr ⟨rfl, Hrgk.out 19 Lq wq  hh.cls, (by rw [Hrge19.out])⟩
          · intro Lq wq xq hh
            have d14 : Erg 14 (xq 14) wq := hh.val 14 (by kernel_rfl) (by kernel_rfl)
            rw [Hrge14.out] at d14
            have d19 : Erg 19 (xq 19) wq := hh.val 19 (by kernel_rfl) (by kernel_rfl)
            rw [Hrge19.out] at d19
            simp only [hFrg, d14, d19]
            clear d14 d19
            exact .inr ⟨rfl, Hrgk.out 20 Lq wq  hh.cls, (by rw [Hrge20.out])⟩
          · intro Lq wq xq hh
            have d14 : Erg 14 (xq 14) wq := hh.val 14 (by kernel_rfl) (by kernel_rfl)
            rw [Hrge14.out] at d14
            have d17 : Erg 17 (xq 17) wq := hh.val 17 (by kernel_rfl) (by kernel_rfl)
            rw [Hrge17.out] at d17
            have d18 : Erg 18 (xq 18) wq := hh.val 18 (by kernel_rfl) (by kernel_rfl)
            rw [Hrge18.out] at d18
            have d20 : Erg 20 (xq 20) wq := hh.val 20 (by kernel_rfl) (by kernel_rfl)
            rw [Hrge20.out] at d20
            simp only [hFrg, d14, d17, d18, d20]
            clear d14 d17 d18 d20
            exact .inr ⟨rfl, Hrgk.out 21 Lq wq  hh.cls, (by rw [Hrge21.out])⟩
          · intro Lq wq xq hh
            have d14 : Erg 14 (xq 14) wq := hh.val 14 (by kernel_rfl) (by kernel_rfl)
            rw [Hrge14.out] at d14
            have d16 : Erg 16 (xq 16) wq := hh.val 16 (by kernel_rfl) (by kernel_rfl)
            rw [Hrge16.out] at d16
            have d21 : Erg 21 (xq 21) wq := hh.val 21 (by kernel_rfl) (by kernel_rfl)
            rw [Hrge21.out] at d21
            simp only [hFrg, d14, d16, d21]
            clear d14 d16 d21
            exact .inr ⟨rfl, Hrgk.out 22 Lq wq  hh.cls, (by rw [Hrge22.out])⟩
          · intro Lq wq xq hh
            have d14 : Erg 14 (xq 14) wq := hh.val 14 (by kernel_rfl) (by kernel_rfl)
            rw [Hrge14.out] at d14
            have d22 : Erg 22 (xq 22) wq := hh.val 22 (by kernel_rfl) (by kernel_rfl)
            rw [Hrge22.out] at d22
            simp only [hFrg, d14, d22]
            clear d14 d22
            exact .inr ⟨rfl, Hrgk.out 23 Lq wq  hh.cls, (by rw [Hrge23.out])⟩
          · intro Lq wq xq hh
            have d14 : Erg 14 (xq 14) wq := hh.val 14 (by kernel_rfl) (by kernel_rfl)
            rw [Hrge14.out] at d14
            have d23 : Erg 23 (xq 23) wq := hh.val 23 (by kernel_rfl) (by kernel_rfl)
            rw [Hrge23.out] at d23
            simp only [hFrg, d14, d23]
            clear d14 d23
            refine .inl ⟨rfl, ?_⟩
            unfold Reg.upon
            have hk := Hrgk.out 24 Lq wq  hh.cls
            have hx := Hrgx.out wq
            have he : Erg 24 (.bool false) wq := by rw [Hrge24.out]
            have HK := Lib.hid (And.intro hk (And.intro he hx))
            clear hk hx he
            go_simp
            exact HK.out
        intro xq wrg hcrg hvrg
        rw [HrghC.out] at hcrg
        simp only [hFrg]
        have vrg24 : Erg 24 (xq 24) wrg := hvrg 24 (by decide)
        rw [Hrge24.out] at vrg24
        rw [vrg24]
        clear hvrg hFrg Hrgk Hrgx Hrgst Hrgc HrghC HrghX Hrgb Hrgxb Hrge0 Hrge1 Hrge2 Hrge3 Hrge4 Hrge5 Hrge6 Hrge7 Hrge8 Hrge9 Hrge10 Hrge11 Hrge12 Hrge13 Hrge14 Hrge15 Hrge16 Hrge17 Hrge18 Hrge19 Hrge20 Hrge21 Hrge22 Hrge23 Hrge24
        obtain ⟨w7, hw7⟩ : ∃ w7, w7 = wrg := ⟨_, rfl⟩
        rw [← hw7] at hcrg ⊢
        clear hw7 vrg24
        replace B := Lib.hid (B.out.trans (hcrg.mono B.out.size))
        replace R := Lib.hid (R.out.below hcrg)
        clear hcrg
        go_wp2
        go_roundw
        case rel => exact ⟨k + 1, by omega, by go_num, R.out, B.out⟩
        case measure => simp [intOf] <;> omega
      have d5 : decide ((k : Int) < T) = false := by simp; omega
      by_cases hE : T < k
      · have d6 : decide ((T : Int) < k) = true := by simp; omega
        have hSame : c2 = (K, X) := (hf2 (.inr (.inr hE))).symm
        clear hf1 hf2
        have HC2 := HC
        clear HC
        go_wp2_with fail
        refine HC2.out.mono ?_
        rintro e w5 ⟨tv, rfl, h5, b5⟩
        obtain ⟨ta, tc, rfl⟩ := h5.len
        go_upto_region 14 with (fail)
        obtain ⟨W6, hW6⟩ : ∃ W6, W6 = w5.alloc (.cells #[.int .i64 K, .slice ta X.length tc] 27) := ⟨_, rfl⟩
        have b6 : Below w5.heap.size w5 W6 := by rw [hW6]; exact (Below.refl _ _).alloc (Nat.le_refl _) _
        have hit : Has W6 w5.heap.size [.int .i64 K, .slice ta X.length tc] 27 := by rw [hW6]; exact Has.new w5 _ _
        rw [← hW6]
        have HT6 := Lib.hid (h5.below b6)
        have HIT := Lib.hid hit
        have b56 := b5.trans (b6.mono b5.size)
        have HSZ := Lib.hid hit.lt
        replace R := Lib.hid (R.out.below b56)
        replace B := Lib.hid (B.out.trans (b56.mono B.out.size))
        clear h5 b5 b6 hit hW6 b56 HC2
        obtain ⟨Erg, hErg⟩ : ∃ EE : Nat → Value → World → Prop, EE = fun jj xx ww => match jj with
            | 0 => xx = .int .i64 F
            | 1 => xx = .int .i64 T
            | 2 => xx = .bool false
            | 3 => xx = .bool false
            | 4 => xx = .int .i64 k
            | 5 => xx = .int .i64 ((k : Int) + 1)
            | 6 => xx = .int .i64 F
            | 7 => xx = .bool false
            | 8 => xx = .bool false
            | 9 => xx = .bool false
            | 10 => xx = .int .i64 k
            | 11 => xx = .int .i64 T
            | 12 => xx = .bool true
            | 13 => xx = .bool true
            | 14 => xx = .bool true
            | 15 => xx = .agg #[.int .i64 K, .slice ta X.length tc]
            | 16 => (fun x w' => HeldE cellE (fun _ => True) w' x [(K, X)]) xx ww
            | 17 => xx = .slice (some ⟨b, off, none⟩) L.length ca
            | 18 => xx = .int .i64 k
            | 19 => xx = .int .i64 k
            | 20 => xx = .int .i64 ((k : Int) + 1)
            | 21 => xx = .slice (some ⟨b, off + k * 2, none⟩) 1 (ca - k)
            | 22 => xx = .bool true
            | 23 => xx = .bool false
            | 24 => xx = .bool false
            | _ => True := ⟨_, rfl⟩
        have erg0 : ∀ xx ww, Erg 0 xx ww = (xx = .int .i64 F) := fun xx ww => congrFun (congrFun (congrFun hErg 0) xx) ww
        have erg1 : ∀ xx ww, Erg 1 xx ww = (xx = .int .i64 T) := fun xx ww => congrFun (congrFun (congrFun hErg 1) xx) ww
        have erg2 : ∀ xx ww, Erg 2 xx ww = (xx = .bool false) := fun xx ww => congrFun (congrFun (congrFun hErg 2) xx) ww
        have erg3 : ∀ xx ww, Erg 3 xx ww = (xx = .bool false) := fun xx ww => congrFun (congrFun (congrFun hErg 3) xx) ww
        have erg4 : ∀ xx ww, Erg 4 xx ww = (xx = .int .i64 k) := fun xx ww => congrFun (congrFun (congrFun hErg 4) xx) ww
        have erg5 : ∀ xx ww, Erg 5 xx ww = (xx = .int .i64 ((k : Int) + 1)) := fun xx ww => congrFun (congrFun (congrFun hErg 5) xx) ww
        have erg6 : ∀ xx ww, Erg 6 xx ww = (xx = .int .i64 F) := fun xx ww => congrFun (congrFun (congrFun hErg 6) xx) ww
        have erg7 : ∀ xx ww, Erg 7 xx ww = (xx = .bool false) := fun xx ww => congrFun (congrFun (congrFun hErg 7) xx) ww
        have erg8 : ∀ xx ww, Erg 8 xx ww = (xx = .bool false) := fun xx ww => congrFun (congrFun (congrFun hErg 8) xx) ww
        have erg9 : ∀ xx ww, Erg 9 xx ww = (xx = .bool false) := fun xx ww => congrFun (congrFun (congrFun hErg 9) xx) ww
        have erg10 : ∀ xx ww, Erg 10 xx ww = (xx = .int .i64 k) := fun xx ww => congrFun (congrFun (congrFun hErg 10) xx) ww
        have erg11 : ∀ xx ww, Erg 11 xx ww = (xx = .int .i64 T) := fun xx ww => congrFun (congrFun (congrFun hErg 11) xx) ww
        have erg12 : ∀ xx ww, Erg 12 xx ww = (xx = .bool true) := fun xx ww => congrFun (congrFun (congrFun hErg 12) xx) ww
        have erg13 : ∀ xx ww, Erg 13 xx ww = (xx = .bool true) := fun xx ww => congrFun (congrFun (congrFun hErg 13) xx) ww
        have erg14 : ∀ xx ww, Erg 14 xx ww = (xx = .bool true) := fun xx ww => congrFun (congrFun (congrFun hErg 14) xx) ww
        have erg15 : ∀ xx ww, Erg 15 xx ww = (xx = .agg #[.int .i64 K, .slice ta X.length tc]) := fun xx ww => congrFun (congrFun (congrFun hErg 15) xx) ww
        have erg16 : ∀ xx ww, Erg 16 xx ww = ((fun x w' => HeldE cellE (fun _ => True) w' x [(K, X)]) xx ww) := fun xx ww => congrFun (congrFun (congrFun hErg 16) xx) ww
        have erg17 : ∀ xx ww, Erg 17 xx ww = (xx = .slice (some ⟨b, off, none⟩) L.length ca) := fun xx ww => congrFun (congrFun (congrFun hErg 17) xx) ww
        have erg18 : ∀ xx ww, Erg 18 xx ww = (xx = .int .i64 k) := fun xx ww => congrFun (congrFun (congrFun hErg 18) xx) ww
        have erg19 : ∀ xx ww, Erg 19 xx ww = (xx = .int .i64 k) := fun xx ww => congrFun (congrFun (congrFun hErg 19) xx) ww
        have erg20 : ∀ xx ww, Erg 20 xx ww = (xx = .int .i64 ((k : Int) + 1)) := fun xx ww => congrFun (congrFun (congrFun hErg 20) xx) ww
        have erg21 : ∀ xx ww, Erg 21 xx ww = (xx = .slice (some ⟨b, off + k * 2, none⟩) 1 (ca - k)) := fun xx ww => congrFun (congrFun (congrFun hErg 21) xx) ww
        have erg22 : ∀ xx ww, Erg 22 xx ww = (xx = .bool true) := fun xx ww => congrFun (congrFun (congrFun hErg 22) xx) ww
        have erg23 : ∀ xx ww, Erg 23 xx ww = (xx = .bool false) := fun xx ww => congrFun (congrFun (congrFun hErg 23) xx) ww
        have erg24 : ∀ xx ww, Erg 24 xx ww = (xx = .bool false) := fun xx ww => congrFun (congrFun (congrFun hErg 24) xx) ww
        obtain ⟨Crg, hCrg⟩ : ∃ CC : Array Bool → World → Prop, CC = fun L8 w' => Below W6.heap.size W6 w' := ⟨_, rfl⟩
        have krg : ∀ i L w,  Crg L w → Crg (L.setIfInBounds i true) w := by
          intro i L w  h
          rw [hCrg] at h ⊢
          exact h
        obtain ⟨Xrg, hXrg⟩ : ∃ XX : World → World → Prop, XX = fun x y => Below x.heap.size x y := ⟨_, rfl⟩
        have xrg : ∀ w, Xrg w w := fun w => by rw [hXrg]; exact Below.refl _ _
        have strg : ∀ j x w w1, Xrg w w1 → Erg j x w → Erg j x w1 := by
          intro j x w w1 hx h
          rw [hXrg] at hx
          match j with
          | 0 => rw [erg0] at h ⊢; exact h
          | 1 => rw [erg1] at h ⊢; exact h
          | 2 => rw [erg2] at h ⊢; exact h
          | 3 => rw [erg3] at h ⊢; exact h
          | 4 => rw [erg4] at h ⊢; exact h
          | 5 => rw [erg5] at h ⊢; exact h
          | 6 => rw [erg6] at h ⊢; exact h
          | 7 => rw [erg7] at h ⊢; exact h
          | 8 => rw [erg8] at h ⊢; exact h
          | 9 => rw [erg9] at h ⊢; exact h
          | 10 => rw [erg10] at h ⊢; exact h
          | 11 => rw [erg11] at h ⊢; exact h
          | 12 => rw [erg12] at h ⊢; exact h
          | 13 => rw [erg13] at h ⊢; exact h
          | 14 => rw [erg14] at h ⊢; exact h
          | 15 => rw [erg15] at h ⊢; exact h
          | 16 => rw [erg16] at h ⊢; (exact HeldE.below h hx)
          | 17 => rw [erg17] at h ⊢; exact h
          | 18 => rw [erg18] at h ⊢; exact h
          | 19 => rw [erg19] at h ⊢; exact h
          | 20 => rw [erg20] at h ⊢; exact h
          | 21 => rw [erg21] at h ⊢; exact h
          | 22 => rw [erg22] at h ⊢; exact h
          | 23 => rw [erg23] at h ⊢; exact h
          | 24 => rw [erg24] at h ⊢; exact h
          | j + 25 => rw [hErg]; trivial
        have crg : Crg (Array.replicate 25 false) W6.drew := by rw [hCrg]; exact (Below.refl _ _).drew
        have brg : ∀ L w w1, Crg L w → Below w.heap.size w w1 → Crg L w1 := by
          intro L w w1 h hb
          rw [hCrg] at h ⊢
          exact h.trans (hb.mono h.size)
        have xbrg : ∀ w w1, Below w.heap.size w w1 → Xrg w w1 := by
          intro w w1 hb
          rw [hXrg]
          exact hb
        have Hrgb := Lib.hid brg
        have Hrgxb := Lib.hid xbrg
        clear brg xbrg
        clear hErg
        have Hrgk := Lib.hid krg
        have Hrgx := Lib.hid xrg
        have Hrgst := Lib.hid strg
        have Hrgc := Lib.hid crg
        have HrghC := Lib.hid hCrg
        have HrghX := Lib.hid hXrg
        have Hrge0 := Lib.hid erg0
        have Hrge1 := Lib.hid erg1
        have Hrge2 := Lib.hid erg2
        have Hrge3 := Lib.hid erg3
        have Hrge4 := Lib.hid erg4
        have Hrge5 := Lib.hid erg5
        have Hrge6 := Lib.hid erg6
        have Hrge7 := Lib.hid erg7
        have Hrge8 := Lib.hid erg8
        have Hrge9 := Lib.hid erg9
        have Hrge10 := Lib.hid erg10
        have Hrge11 := Lib.hid erg11
        have Hrge12 := Lib.hid erg12
        have Hrge13 := Lib.hid erg13
        have Hrge14 := Lib.hid erg14
        have Hrge15 := Lib.hid erg15
        have Hrge16 := Lib.hid erg16
        have Hrge17 := Lib.hid erg17
        have Hrge18 := Lib.hid erg18
        have Hrge19 := Lib.hid erg19
        have Hrge20 := Lib.hid erg20
        have Hrge21 := Lib.hid erg21
        have Hrge22 := Lib.hid erg22
        have Hrge23 := Lib.hid erg23
        have Hrge24 := Lib.hid erg24
        clear krg xrg strg crg hCrg hXrg erg0 erg1 erg2 erg3 erg4 erg5 erg6 erg7 erg8 erg9 erg10 erg11 erg12 erg13 erg14 erg15 erg16 erg17 erg18 erg19 erg20 erg21 erg22 erg23 erg24
        go_wp2_with fail
        refine Reg.regionF Erg Crg Xrg Hrgst.out (by kernel_rfl) (by kernel_rfl) (by kernel_rfl) Hrgc.out (fun Frg hFrg => ?_)
        simp only [Reg.frame, Reg.dsts, List.map_cons, List.map_nil, Mix.put_lit, List.set_cons_succ, List.set_cons_zero, Nat.zero_add, Nat.reduceAdd] at hFrg
        refine ⟨?_, ?_⟩
        · refine ⟨?_, ?_, ?_, ?_, ?_, ?_, ?_, ?_, ?_, ?_, ?_, ?_, ?_, ?_, ?_, ?_, ?_, ?_, ?_, ?_, ?_, ?_, ?_, ?_, ?_, trivial⟩
          · intro Lq wq xq hh
            simp only [hFrg]
            refine .inl ⟨rfl, ?_⟩
            unfold Reg.upon
            have hk := Hrgk.out 0 Lq wq  hh.cls
            have hx := Hrgx.out wq
            have he : Erg 0 (.int .i64 F) wq := by rw [Hrge0.out]
            have HK := Lib.hid (And.intro hk (And.intro he hx))
            clear hk hx he
            go_simp
            exact HK.out
          · intro Lq wq xq hh
            simp only [hFrg]
            refine .inl ⟨rfl, ?_⟩
            unfold Reg.upon
            have hk := Hrgk.out 1 Lq wq  hh.cls
            have hx := Hrgx.out wq
            have he : Erg 1 (.int .i64 T) wq := by rw [Hrge1.out]
            have HK := Lib.hid (And.intro hk (And.intro he hx))
            clear hk hx he
            go_simp
            exact HK.out
          · intro Lq wq xq hh
            have d0 : Erg 0 (xq 0) wq := hh.val 0 (by kernel_rfl) (by kernel_rfl)
            rw [Hrge0.out] at d0
            have d1 : Erg 1 (xq 1) wq := hh.val 1 (by kernel_rfl) (by kernel_rfl)
            rw [Hrge1.out] at d1
            simp only [hFrg, d0, d1]
            clear d0 d1
            refine .inl ⟨rfl, ?_⟩
            unfold Reg.upon
            have hk := Hrgk.out 2 Lq wq  hh.cls
            have hx := Hrgx.out wq
            have he : Erg 2 (.bool false) wq := by rw [Hrge2.out]
            have HK := Lib.hid (And.intro hk (And.intro he hx))
            clear hk hx he
            go_simp
            exact HK.out
          · intro Lq wq xq hh
            have d2 : Erg 2 (xq 2) wq := hh.val 2 (by kernel_rfl) (by kernel_rfl)
            rw [Hrge2.out] at d2
            simp only [hFrg, d2]
            clear d2
            refine .inl ⟨rfl, ?_⟩
            unfold Reg.upon
            have hk := Hrgk.out 3 Lq wq  hh.cls
            have hx := Hrgx.out wq
            have he : Erg 3 (.bool false) wq := by rw [Hrge3.out]
            have HK := Lib.hid (And.intro hk (And.intro he hx))
            clear hk hx he
            go_simp
            exact HK.out
          · intro Lq wq xq hh
            have d3 : Erg 3 (xq 3) wq := hh.val 3 (by kernel_rfl) (by kernel_rfl)
            rw [Hrge3.out] at d3
            simp only [hFrg, d3]
            clear d3
            refine .inl ⟨rfl, ?_⟩
            unfold Reg.upon
            have hk := Hrgk.out 4 Lq wq  hh.cls
            have hx := Hrgx.out wq
            have he : Erg 4 (.int .i64 k) wq := by rw [Hrge4.out]
            have HK := Lib.hid (And.intro hk (And.intro he hx))
            clear hk hx he
            go_simp
            exact HK.out
          · intro Lq wq xq hh
            have d3 : Erg 3 (xq 3) wq := hh.val 3 (by kernel_rfl) (by kernel_rfl)
            rw [Hrge3.out] at d3
            have d4 : Erg 4 (xq 4) wq := hh.val 4 (by kernel_rfl) (by kernel_rfl)
            rw [Hrge4.out] at d4
            simp only [hFrg, d3, d4]
            clear d3 d4
            refine .inl ⟨rfl, ?_⟩
            unfold Reg.upon
            have hk := Hrgk.out 5 Lq wq  hh.cls
            have hx := Hrgx.out wq
            have he : Erg 5 (.int .i64 ((k : Int) + 1)) wq := by rw [Hrge5.out]
            have HK := Lib.hid (And.intro hk (And.intro he hx))
            clear hk hx he
            go_simp
            exact HK.out
          · intro Lq wq xq hh
            have d3 : Erg 3 (xq 3) wq := hh.val 3 (by kernel_rfl) (by kernel_rfl)
            rw [Hrge3.out] at d3
            simp only [hFrg, d3]
            clear d3
            refine .inl ⟨rfl, ?_⟩
            unfold Reg.upon
            have hk := Hrgk.out 6 Lq wq  hh.cls
            have hx := Hrgx.out wq
            have he : Erg 6 (.int .i64 F) wq := by rw [Hrge6.out]
            have HK := Lib.hid (And.intro hk (And.intro he hx))
            clear hk hx he
            go_simp
            exact HK.out
          · intro Lq wq xq hh
            have d3 : Erg 3 (xq 3) wq := hh.val 3 (by kernel_rfl) (by kernel_rfl)
            rw [Hrge3.out] at d3
            have d5 : Erg 5 (xq 5) wq := hh.val 5 (by kernel_rfl) (by kernel_rfl)
            rw [Hrge5.out] at d5
            have d6 : Erg 6 (xq 6) wq := hh.val 6 (by kernel_rfl) (by kernel_rfl)
            rw [Hrge6.out] at d6
            simp only [hFrg, d3, d5, d6]
            clear d3 d5 d6
            refine .inl ⟨rfl, ?_⟩
            unfold Reg.upon
            have hk := Hrgk.out 7 Lq wq  hh.cls
            have hx := Hrgx.out wq
            have he : Erg 7 (.bool false) wq := by rw [Hrge7.out]
            have HK := Lib.hid (And.intro hk (And.intro he hx))
            clear hk hx he
            go_simp
            exact HK.out
          · intro Lq wq xq hh
            have d3 : Erg 3 (xq 3) wq := hh.val 3 (by kernel_rfl) (by kernel_rfl)
            rw [Hrge3.out] at d3
            have d7 : Erg 7 (xq 7) wq := hh.val 7 (by kernel_rfl) (by kernel_rfl)
            rw [Hrge7.out] at d7
            simp only [hFrg, d3, d7]
            clear d3 d7
            refine .inl ⟨rfl, ?_⟩
            unfold Reg.upon
            have hk := Hrgk.out 8 Lq wq  hh.cls
            have hx := Hrgx.out wq
            have he : Erg 8 (.bool false) wq := by rw [Hrge8.out]
            have HK := Lib.hid (And.intro hk (And.intro he hx))
            clear hk hx he
            go_simp
            exact HK.out
          · intro Lq wq xq hh
            have d8 : Erg 8 (xq 8) wq := hh.val 8 (by kernel_rfl) (by kernel_rfl)
            rw [Hrge8.out] at d8
            simp only [hFrg, d8]
            clear d8
            refine .inl ⟨rfl, ?_⟩
            unfold Reg.upon
            have hk := Hrgk.out 9 Lq wq  hh.cls
            have hx := Hrgx.out wq
            have he : Erg 9 (.bool false) wq := by rw [Hrge9.out]
            have HK := Lib.hid (And.intro hk (And.intro he hx))
            clear hk hx he
            go_simp
            exact HK.out
          · intro Lq wq xq hh
            have d9 : Erg 9 (xq 9) wq := hh.val 9 (by kernel_rfl) (by kernel_rfl)
            rw [Hrge9.out] at d9
            simp only [hFrg, d9]
            clear d9
            refine .inl ⟨rfl, ?_⟩
            unfold Reg.upon
            have hk := Hrgk.out 10 Lq wq  hh.cls
            have hx := Hrgx.out wq
            have he : Erg 10 (.int .i64 k) wq := by rw [Hrge10.out]
            have HK := Lib.hid (And.intro hk (And.intro he hx))
            clear hk hx he
            go_simp
            exact HK.out
          · intro Lq wq xq hh
            have d9 : Erg 9 (xq 9) wq := hh.val 9 (by kernel_rfl) (by kernel_rfl)
            rw [Hrge9.out] at d9
            simp only [hFrg, d9]
            clear d9
            refine .inl ⟨rfl, ?_⟩
            unfold Reg.upon
            have hk := Hrgk.out 11 Lq wq  hh.cls
            have hx := Hrgx.out wq
            have he : Erg 11 (.int .i64 T) wq := by rw [Hrge11.out]
            have HK := Lib.hid (And.intro hk (And.intro he hx))
            clear hk hx he
            go_simp
            exact HK.out
          · intro Lq wq xq hh
            have d9 : Erg 9 (xq 9) wq := hh.val 9 (by kernel_rfl) (by kernel_rfl)
            rw [Hrge9.out] at d9
            have d10 : Erg 10 (xq 10) wq := hh.val 10 (by kernel_rfl) (by kernel_rfl)
            rw [Hrge10.out] at d10
            have d11 : Erg 11 (xq 11) wq := hh.val 11 (by kernel_rfl) (by kernel_rfl)
            rw [Hrge11.out] at d11
            simp only [hFrg, d9, d10, d11]
            clear d9 d10 d11
            refine .inl ⟨rfl, ?_⟩
            unfold Reg.upon
            have hk := Hrgk.out 12 Lq wq  hh.cls
            have hx := Hrgx.out wq
            have he : Erg 12 (.bool true) wq := by rw [Hrge12.out]
            have HK := Lib.hid (And.intro hk (And.intro he hx))
            clear hk hx he
            go_simp
            exact HK.out
          · intro Lq wq xq hh
            have d9 : Erg 9 (xq 9) wq := hh.val 9 (by kernel_rfl) (by kernel_rfl)
            rw [Hrge9.out] at d9
            have d12 : Erg 12 (xq 12) wq := hh.val 12 (by kernel_rfl) (by kernel_rfl)
            rw [Hrge12.out] at d12
            simp only [hFrg, d9, d12]
            clear d9 d12
            refine .inl ⟨rfl, ?_⟩
            unfold Reg.upon
            have hk := Hrgk.out 13 Lq wq  hh.cls
            have hx := Hrgx.out wq
            have he : Erg 13 (.bool true) wq := by rw [Hrge13.out]
            have HK := Lib.hid (And.intro hk (And.intro he hx))
            clear hk hx he
            go_simp
            exact HK.out
          · intro Lq wq xq hh
            have d13 : Erg 13 (xq 13) wq := hh.val 13 (by kernel_rfl) (by kernel_rfl)
            rw [Hrge13.out] at d13
            simp only [hFrg, d13]
            clear d13
            refine .inl ⟨rfl, ?_⟩
            unfold Reg.upon
            have hk := Hrgk.out 14 Lq wq  hh.cls
            have hx := Hrgx.out wq
            have he : Erg 14 (.bool true) wq := by rw [Hrge14.out]
            have HK := Lib.hid (And.intro hk (And.intro he hx))
            clear hk hx he
            go_simp
            exact HK.out
          · intro Lq wq xq hh
            have d14 : Erg 14 (xq 14) wq := hh.val 14 (by kernel_rfl) (by kernel_rfl)
            rw [Hrge14.out] at d14
            simp only [hFrg, d14]
            clear d14
            refine .inl ⟨rfl, ?_⟩
            unfold Reg.upon
            have hc : Crg Lq wq := hh.cls
            rw [HrghC.out] at hc
            rw [exec_load_has rfl rfl (HIT.out.below hc HIT.out.lt) Tryd.underlying27 rfl info_cell2 rfl]
            exact ⟨Hrgk.out 15 Lq wq  hh.cls, (by rw [Hrge15.out]; try rfl), Hrgx.out _⟩
          · intro Lq wq xq hh
            have d14 : Erg 14 (xq 14) wq := hh.val 14 (by kernel_rfl) (by kernel_rfl)
            rw [Hrge14.out] at d14
            have d15 : Erg 15 (xq 15) wq := hh.val 15 (by kernel_rfl) (by kernel_rfl)
            rw [Hrge15.out] at d15
            simp only [hFrg, d14, d15]
            clear d14 d15
            refine .inl ⟨rfl, ?_⟩
            unfold Reg.upon
            have hc : Crg Lq wq := hh.cls
            rw [HrghC.out] at hc
            have hb1 := (Below.refl wq.heap.size wq).alloc (Nat.le_refl _) (.cells #[.int .i64 K, .slice ta X.length tc] 27)
            have ho := (strip1_own (fun _ => True) wq (B := 0) K _ X ((HT6.out.below hc).zone (fun _ _ _ => trivial)) (Nat.zero_le _)).held (fun _ _ _ => trivial)
            go_simp
            refine ⟨Hrgk.out 16 Lq _ (Hrgb.out Lq wq _ hh.cls hb1), ?_, Hrgxb.out wq _ hb1⟩
            rw [Hrge16.out]
            exact ho
          · intro Lq wq xq hh
            have d14 : Erg 14 (xq 14) wq := hh.val 14 (by kernel_rfl) (by kernel_rfl)
            rw [Hrge14.out] at d14
            simp only [hFrg, d14]
            clear d14
            refine .inl ⟨rfl, ?_⟩
            unfold Reg.upon
            have hk := Hrgk.out 17 Lq wq  hh.cls
            have hx := Hrgx.out wq
            have he : Erg 17 (.slice (some ⟨b, off, none⟩) L.length ca) wq := by rw [Hrge17.out]
            have HK := Lib.hid (And.intro hk (And.intro he hx))
            clear hk hx he
            go_simp
            exact HK.out
          · intro Lq wq xq hh
            have d14 : Erg 14 (xq 14) wq := hh.val 14 (by kernel_rfl) (by kernel_rfl)
            rw [Hrge14.out] at d14
            simp only [hFrg, d14]
            clear d14
            refine .inl ⟨rfl, ?_⟩
            unfold Reg.upon
            have hk := Hrgk.out 18 Lq wq  hh.cls
            have hx := Hrgx.out wq
            have he : Erg 18 (.int .i64 k) wq := by rw [Hrge18.out]
            have HK := Lib.hid (And.intro hk (And.intro he hx))
            clear hk hx he
            go_simp
            exact HK.out
          · intro Lq wq xq hh
            have d14 : Erg 14 (xq 14) wq := hh.val 14 (by kernel_rfl) (by kernel_rfl)
            rw [Hrge14.out] at d14
            simp only [hFrg, d14]
            clear d14
            refine .inl ⟨rfl, ?_⟩
            unfold Reg.upon
            have hk := Hrgk.out 19 Lq wq  hh.cls
            have hx := Hrgx.out wq
            have he : Erg 19 (.int .i64 k) wq := by rw [Hrge19.out]
            have HK := Lib.hid (And.intro hk (And.intro he hx))
            clear hk hx he
            go_simp
            exact HK.out
          · intro Lq wq xq hh
            have d14 : Erg 14 (xq 14) wq := hh.val 14 (by kernel_rfl) (by kernel_rfl)
            rw [Hrge14.out] at d14
            have d19 : Erg 19 (xq 19) wq := hh.val 19 (by kernel_rfl) (by kernel_rfl)
            rw [Hrge19.out] at d19
            simp only [hFrg, d14, d19]
            clear d14 d19
            refine .inl ⟨rfl, ?_⟩
            unfold Reg.upon
            have hk := Hrgk.out 20 Lq wq  hh.cls
            have hx := Hrgx.out wq
            have he : Erg 20 (.int .i64 ((k : Int) + 1)) wq := by rw [Hrge20.out]
            have HK := Lib.hid (And.intro hk (And.intro he hx))
            clear hk hx he
            go_simp
            exact HK.out
          · intro Lq wq xq hh
            have d14 : Erg 14 (xq 14) wq := hh.val 14 (by kernel_rfl) (by kernel_rfl)
            rw [Hrge14.out] at d14
            have d17 : Erg 17 (xq 17) wq := hh.val 17 (by kernel_rfl) (by kernel_rfl)
            rw [Hrge17.out] at d17
            have d18 : Erg 18 (xq 18) wq := hh.val 18 (by kernel_rfl) (by kernel_rfl)
            rw [Hrge18.out] at d18
            have d20 : Erg 20 (xq 20) wq := hh.val 20 (by kernel_rfl) (by kernel_rfl)
            rw [Hrge20.out] at d20
            simp only [hFrg, d14, d17, d18, d20]
            clear d14 d17 d18 d20
            refine .inl ⟨rfl, ?_⟩
            unfold Reg.upon
            have hk := Hrgk.out 21 Lq wq  hh.cls
            have hx := Hrgx.out wq
            have he : Erg 21 (.slice (some ⟨b, off + k * 2, none⟩) 1 (ca - k)) wq := by rw [Hrge21.out]
            have HK := Lib.hid (And.intro hk (And.intro he hx))
            clear hk hx he
            go_simp
            exact HK.out
          · intro Lq wq xq hh
            have d14 : Erg 14 (xq 14) wq := hh.val 14 (by kernel_rfl) (by kernel_rfl)
            rw [Hrge14.out] at d14
            have d16 : Erg 16 (xq 16) wq := hh.val 16 (by kernel_rfl) (by kernel_rfl)
            rw [Hrge16.out] at d16
            have d21 : Erg 21 (xq 21) wq := hh.val 21 (by kernel_rfl) (by kernel_rfl)
            rw [Hrge21.out] at d21
            simp only [hFrg, d14, d21]
            clear d14 d21
            refine .inl ⟨rfl, ?_⟩
            unfold Reg.upon
            have hc : Crg Lq wq := hh.cls
            rw [HrghC.out] at hc
            go_simp
            refine ((show Calls _ _ _ _ (Gives _ (.bool true)) from (sameC_self [(K, X)]) ▸ rcsame_any _ _ _ _ _ _ _ d16 (hSame ▸ HLK.out wq (B.out.trans (hc.mono B.out.size))))).mono ?_
            rintro e w2 ⟨rfl, hb⟩
            exact ⟨_, rfl, Hrgk.out 22 Lq w2  (Hrgb.out Lq wq w2 hh.cls hb), (by rw [Hrge22.out]; try rfl), Hrgxb.out wq w2 hb⟩
          · intro Lq wq xq hh
            have d14 : Erg 14 (xq 14) wq := hh.val 14 (by kernel_rfl) (by kernel_rfl)
            rw [Hrge14.out] at d14
            have d22 : Erg 22 (xq 22) wq := hh.val 22 (by kernel_rfl) (by kernel_rfl)
            rw [Hrge22.out] at d22
            simp only [hFrg, d14, d22]
            clear d14 d22
            refine .inl ⟨rfl, ?_⟩
            unfold Reg.upon
            have hk := Hrgk.out 23 Lq wq  hh.cls
            have hx := Hrgx.out wq
            have he : Erg 23 (.bool false) wq := by rw [Hrge23.out]
            have HK := Lib.hid (And.intro hk (And.intro he hx))
            clear hk hx he
            go_simp
            exact HK.out
          · intro Lq wq xq hh
            have d14 : Erg 14 (xq 14) wq := hh.val 14 (by kernel_rfl) (by kernel_rfl)
            rw [Hrge14.out] at d14
            have d23 : Erg 23 (xq 23) wq := hh.val 23 (by kernel_rfl) (by kernel_rfl)
            rw [Hrge23.out] at d23
            simp only [hFrg, d14, d23]
            clear d14 d23
            refine .inl ⟨rfl, ?_⟩
            unfold Reg.upon
            have hk := Hrgk.out 24 Lq wq  hh.cls
            have hx := Hrgx.out wq
            have he : Erg 24 (.bool false) wq := by rw [Hrge24.out]
            have HK := Lib.hid (And.intro hk (And.intro he hx))
            clear hk hx he
            go_simp
            exact HK.out
        intro xq wrg hcrg hvrg
        rw [HrghC.out] at hcrg
        simp only [hFrg]
        have vrg24 : Erg 24 (xq 24) wrg := hvrg 24 (by decide)
        rw [Hrge24.out] at vrg24
        rw [vrg24]
        clear hvrg hFrg Hrgk Hrgx Hrgst Hrgc HrghC HrghX Hrgb Hrgxb Hrge0 Hrge1 Hrge2 Hrge3 Hrge4 Hrge5 Hrge6 Hrge7 Hrge8 Hrge9 Hrge10 Hrge11 Hrge12 Hrge13 Hrge14 Hrge15 Hrge16 Hrge17 Hrge18 Hrge19 Hrge20 Hrge21 Hrge22 Hrge23 Hrge24
        obtain ⟨w7, hw7⟩ : ∃ w7, w7 = wrg := ⟨_, rfl⟩
        rw [← hw7] at hcrg ⊢
        clear hw7 vrg24
        replace B := Lib.hid (B.out.trans (hcrg.mono B.out.size))
        replace R := Lib.hid (R.out.below hcrg)
        clear hcrg
        go_wp2
        go_roundw
        case rel => exact ⟨k + 1, by omega, by go_num, R.out, B.out⟩
        case measure => simp [intOf] <;> omega
      · have d6 : decide ((T : Int) < k) = false := by simp; omega
        have d6n : decide (T < k) = false := by simp; omega
        clear hf1 hf2
        have HC2 := HC
        clear HC
        go_wp2_with fail
        refine HC2.out.mono ?_
        rintro e w5 ⟨tv, rfl, h5, b5⟩
        obtain ⟨ta, tc, rfl⟩ := h5.len
        go_upto_region 14 with (fail)
        obtain ⟨W6, hW6⟩ : ∃ W6, W6 = w5.alloc (.cells #[.int .i64 K, .slice ta X.length tc] 27) := ⟨_, rfl⟩
        have b6 : Below w5.heap.size w5 W6 := by rw [hW6]; exact (Below.refl _ _).alloc (Nat.le_refl _) _
        have hit : Has W6 w5.heap.size [.int .i64 K, .slice ta X.length tc] 27 := by rw [hW6]; exact Has.new w5 _ _
        rw [← hW6]
        have HT6 := Lib.hid (h5.below b6)
        have HIT := Lib.hid hit
        have b56 := b5.trans (b6.mono b5.size)
        have HSZ := Lib.hid hit.lt
        replace R := Lib.hid (R.out.below b56)
        replace B := Lib.hid (B.out.trans (b56.mono B.out.size))
        clear h5 b5 b6 hit hW6 b56 HC2
        obtain ⟨Erg, hErg⟩ : ∃ EE : Nat → Value → World → Prop, EE = fun jj xx ww => match jj with
            | 0 => xx = .int .i64 F
            | 1 => xx = .int .i64 T
            | 2 => xx = .bool false
            | 3 => xx = .bool false
            | 4 => xx = .int .i64 k
            | 5 => xx = .int .i64 ((k : Int) + 1)
            | 6 => xx = .int .i64 F
            | 7 => xx = .bool false
            | 8 => xx = .bool false
            | 9 => xx = .bool false
            | 10 => xx = .int .i64 k
            | 11 => xx = .int .i64 T
            | 12 => xx = .bool false
            | 13 => xx = .bool false
            | 14 => xx = .bool false
            | 15 => xx = undef
            | 16 => xx = undef
            | 17 => xx = undef
            | 18 => xx = undef
            | 19 => xx = undef
            | 20 => xx = undef
            | 21 => xx = undef
            | 22 => xx = undef
            | 23 => xx = undef
            | 24 => xx = .bool false
            | _ => True := ⟨_, rfl⟩
        have erg0 : ∀ xx ww, Erg 0 xx ww = (xx = .int .i64 F) := fun xx ww => congrFun (congrFun (congrFun hErg 0) xx) ww
        have erg1 : ∀ xx ww, Erg 1 xx ww = (xx = .int .i64 T) := fun xx ww => congrFun (congrFun (congrFun hErg 1) xx) ww
        have erg2 : ∀ xx ww, Erg 2 xx ww = (xx = .bool false) := fun xx ww => congrFun (congrFun (congrFun hErg 2) xx) ww
        have erg3 : ∀ xx ww, Erg 3 xx ww = (xx = .bool false) := fun xx ww => congrFun (congrFun (congrFun hErg 3) xx) ww
        have erg4 : ∀ xx ww, Erg 4 xx ww = (xx = .int .i64 k) := fun xx ww => congrFun (congrFun (congrFun hErg 4) xx) ww
        have erg5 : ∀ xx ww, Erg 5 xx ww = (xx = .int .i64 ((k : Int) + 1)) := fun xx ww => congrFun (congrFun (congrFun hErg 5) xx) ww
        have erg6 : ∀ xx ww, Erg 6 xx ww = (xx = .int .i64 F) := fun xx ww => congrFun (congrFun (congrFun hErg 6) xx) ww
        have erg7 : ∀ xx ww, Erg 7 xx ww = (xx = .bool false) := fun xx ww => congrFun (congrFun (congrFun hErg 7) xx) ww
        have erg8 : ∀ xx ww, Erg 8 xx ww = (xx = .bool false) := fun xx ww => congrFun (congrFun (congrFun hErg 8) xx) ww
        have erg9 : ∀ xx ww, Erg 9 xx ww = (xx = .bool false) := fun xx ww => congrFun (congrFun (congrFun hErg 9) xx) ww
        have erg10 : ∀ xx ww, Erg 10 xx ww = (xx = .int .i64 k) := fun xx ww => congrFun (congrFun (congrFun hErg 10) xx) ww
        have erg11 : ∀ xx ww, Erg 11 xx ww = (xx = .int .i64 T) := fun xx ww => congrFun (congrFun (congrFun hErg 11) xx) ww
        have erg12 : ∀ xx ww, Erg 12 xx ww = (xx = .bool false) := fun xx ww => congrFun (congrFun (congrFun hErg 12) xx) ww
        have erg13 : ∀ xx ww, Erg 13 xx ww = (xx = .bool false) := fun xx ww => congrFun (congrFun (congrFun hErg 13) xx) ww
        have erg14 : ∀ xx ww, Erg 14 xx ww = (xx = .bool false) := fun xx ww => congrFun (congrFun (congrFun hErg 14) xx) ww
        have erg15 : ∀ xx ww, Erg 15 xx ww = (xx = undef) := fun xx ww => congrFun (congrFun (congrFun hErg 15) xx) ww
        have erg16 : ∀ xx ww, Erg 16 xx ww = (xx = undef) := fun xx ww => congrFun (congrFun (congrFun hErg 16) xx) ww
        have erg17 : ∀ xx ww, Erg 17 xx ww = (xx = undef) := fun xx ww => congrFun (congrFun (congrFun hErg 17) xx) ww
        have erg18 : ∀ xx ww, Erg 18 xx ww = (xx = undef) := fun xx ww => congrFun (congrFun (congrFun hErg 18) xx) ww
        have erg19 : ∀ xx ww, Erg 19 xx ww = (xx = undef) := fun xx ww => congrFun (congrFun (congrFun hErg 19) xx) ww
        have erg20 : ∀ xx ww, Erg 20 xx ww = (xx = undef) := fun xx ww => congrFun (congrFun (congrFun hErg 20) xx) ww
        have erg21 : ∀ xx ww, Erg 21 xx ww = (xx = undef) := fun xx ww => congrFun (congrFun (congrFun hErg 21) xx) ww
        have erg22 : ∀ xx ww, Erg 22 xx ww = (xx = undef) := fun xx ww => congrFun (congrFun (congrFun hErg 22) xx) ww
        have erg23 : ∀ xx ww, Erg 23 xx ww = (xx = undef) := fun xx ww => congrFun (congrFun (congrFun hErg 23) xx) ww
        have erg24 : ∀ xx ww, Erg 24 xx ww = (xx = .bool false) := fun xx ww => congrFun (congrFun (congrFun hErg 24) xx) ww
        obtain ⟨Crg, hCrg⟩ : ∃ CC : Array Bool → World → Prop, CC = fun L8 w' => Below W6.heap.size W6 w' := ⟨_, rfl⟩
        have krg : ∀ i L w,  Crg L w → Crg (L.setIfInBounds i true) w := by
          intro i L w  h
          rw [hCrg] at h ⊢
          exact h
        obtain ⟨Xrg, hXrg⟩ : ∃ XX : World → World → Prop, XX = fun x y => Below x.heap.size x y := ⟨_, rfl⟩
        have xrg : ∀ w, Xrg w w := fun w => by rw [hXrg]; exact Below.refl _ _
        have strg : ∀ j x w w1, Xrg w w1 → Erg j x w → Erg j x w1 := by
          intro j x w w1 hx h
          rw [hXrg] at hx
          match j with
          | 0 => rw [erg0] at h ⊢; exact h
          | 1 => rw [erg1] at h ⊢; exact h
          | 2 => rw [erg2] at h ⊢; exact h
          | 3 => rw [erg3] at h ⊢; exact h
          | 4 => rw [erg4] at h ⊢; exact h
          | 5 => rw [erg5] at h ⊢; exact h
          | 6 => rw [erg6] at h ⊢; exact h
          | 7 => rw [erg7] at h ⊢; exact h
          | 8 => rw [erg8] at h ⊢; exact h
          | 9 => rw [erg9] at h ⊢; exact h
          | 10 => rw [erg10] at h ⊢; exact h
          | 11 => rw [erg11] at h ⊢; exact h
          | 12 => rw [erg12] at h ⊢; exact h
          | 13 => rw [erg13] at h ⊢; exact h
          | 14 => rw [erg14] at h ⊢; exact h
          | 15 => rw [erg15] at h ⊢; exact h
          | 16 => rw [erg16] at h ⊢; exact h
          | 17 => rw [erg17] at h ⊢; exact h
          | 18 => rw [erg18] at h ⊢; exact h
          | 19 => rw [erg19] at h ⊢; exact h
          | 20 => rw [erg20] at h ⊢; exact h
          | 21 => rw [erg21] at h ⊢; exact h
          | 22 => rw [erg22] at h ⊢; exact h
          | 23 => rw [erg23] at h ⊢; exact h
          | 24 => rw [erg24] at h ⊢; exact h
          | j + 25 => rw [hErg]; trivial
        have crg : Crg (Array.replicate 25 false) W6.drew := by rw [hCrg]; exact (Below.refl _ _).drew
        have brg : ∀ L w w1, Crg L w → Below w.heap.size w w1 → Crg L w1 := by
          intro L w w1 h hb
          rw [hCrg] at h ⊢
          exact h.trans (hb.mono h.size)
        have xbrg : ∀ w w1, Below w.heap.size w w1 → Xrg w w1 := by
          intro w w1 hb
          rw [hXrg]
          exact hb
        have Hrgb := Lib.hid brg
        have Hrgxb := Lib.hid xbrg
        clear brg xbrg
        clear hErg
        have Hrgk := Lib.hid krg
        have Hrgx := Lib.hid xrg
        have Hrgst := Lib.hid strg
        have Hrgc := Lib.hid crg
        have HrghC := Lib.hid hCrg
        have HrghX := Lib.hid hXrg
        have Hrge0 := Lib.hid erg0
        have Hrge1 := Lib.hid erg1
        have Hrge2 := Lib.hid erg2
        have Hrge3 := Lib.hid erg3
        have Hrge4 := Lib.hid erg4
        have Hrge5 := Lib.hid erg5
        have Hrge6 := Lib.hid erg6
        have Hrge7 := Lib.hid erg7
        have Hrge8 := Lib.hid erg8
        have Hrge9 := Lib.hid erg9
        have Hrge10 := Lib.hid erg10
        have Hrge11 := Lib.hid erg11
        have Hrge12 := Lib.hid erg12
        have Hrge13 := Lib.hid erg13
        have Hrge14 := Lib.hid erg14
        have Hrge15 := Lib.hid erg15
        have Hrge16 := Lib.hid erg16
        have Hrge17 := Lib.hid erg17
        have Hrge18 := Lib.hid erg18
        have Hrge19 := Lib.hid erg19
        have Hrge20 := Lib.hid erg20
        have Hrge21 := Lib.hid erg21
        have Hrge22 := Lib.hid erg22
        have Hrge23 := Lib.hid erg23
        have Hrge24 := Lib.hid erg24
        clear krg xrg strg crg hCrg hXrg erg0 erg1 erg2 erg3 erg4 erg5 erg6 erg7 erg8 erg9 erg10 erg11 erg12 erg13 erg14 erg15 erg16 erg17 erg18 erg19 erg20 erg21 erg22 erg23 erg24
        go_wp2_with fail
        refine Reg.regionF Erg Crg Xrg Hrgst.out (by kernel_rfl) (by kernel_rfl) (by kernel_rfl) Hrgc.out (fun Frg hFrg => ?_)
        simp only [Reg.frame, Reg.dsts, List.map_cons, List.map_nil, Mix.put_lit, List.set_cons_succ, List.set_cons_zero, Nat.zero_add, Nat.reduceAdd] at hFrg
        refine ⟨?_, ?_⟩
        · refine ⟨?_, ?_, ?_, ?_, ?_, ?_, ?_, ?_, ?_, ?_, ?_, ?_, ?_, ?_, ?_, ?_, ?_, ?_, ?_, ?_, ?_, ?_, ?_, ?_, ?_, trivial⟩
          · intro Lq wq xq hh
            simp only [hFrg]
            refine .inl ⟨rfl, ?_⟩
            unfold Reg.upon
            have hk := Hrgk.out 0 Lq wq  hh.cls
            have hx := Hrgx.out wq
            have he : Erg 0 (.int .i64 F) wq := by rw [Hrge0.out]
            have HK := Lib.hid (And.intro hk (And.intro he hx))
            clear hk hx he
            go_simp
            exact HK.out
          · intro Lq wq xq hh
            simp only [hFrg]
            refine .inl ⟨rfl, ?_⟩
            unfold Reg.upon
            have hk := Hrgk.out 1 Lq wq  hh.cls
            have hx := Hrgx.out wq
            have he : Erg 1 (.int .i64 T) wq := by rw [Hrge1.out]
            have HK := Lib.hid (And.intro hk (And.intro he hx))
            clear hk hx he
            go_simp
            exact HK.out
          · intro Lq wq xq hh
            have d0 : Erg 0 (xq 0) wq := hh.val 0 (by kernel_rfl) (by kernel_rfl)
            rw [Hrge0.out] at d0
            have d1 : Erg 1 (xq 1) wq := hh.val 1 (by kernel_rfl) (by kernel_rfl)
            rw [Hrge1.out] at d1
            simp only [hFrg, d0, d1]
            clear d0 d1
            refine .inl ⟨rfl, ?_⟩
            unfold Reg.upon
            have hk := Hrgk.out 2 Lq wq  hh.cls
            have hx := Hrgx.out wq
            have he : Erg 2 (.bool false) wq := by rw [Hrge2.out]
            have HK := Lib.hid (And.intro hk (And.intro he hx))
            clear hk hx he
            go_simp
            exact HK.out
          · intro Lq wq xq hh
            have d2 : Erg 2 (xq 2) wq := hh.val 2 (by kernel_rfl) (by kernel_rfl)
            rw [Hrge2.out] at d2
            simp only [hFrg, d2]
            clear d2
            refine .inl ⟨rfl, ?_⟩
            unfold Reg.upon
            have hk := Hrgk.out 3 Lq wq  hh.cls
            have hx := Hrgx.out wq
            have he : Erg 3 (.bool false) wq := by rw [Hrge3.out]
            have HK := Lib.hid (And.intro hk (And.intro he hx))
            clear hk hx he
            go_simp
            exact HK.out
          · intro Lq wq xq hh
            have d3 : Erg 3 (xq 3) wq := hh.val 3 (by kernel_rfl) (by kernel_rfl)
            rw [Hrge3.out] at d3
            simp only [hFrg, d3]
            clear d3
            refine .inl ⟨rfl, ?_⟩
            unfold Reg.upon
            have hk := Hrgk.out 4 Lq wq  hh.cls
            have hx := Hrgx.out wq
            have he : Erg 4 (.int .i64 k) wq := by rw [Hrge4.out]
            have HK := Lib.hid (And.intro hk (And.intro he hx))
            clear hk hx he
            go_simp
            exact HK.out
          · intro Lq wq xq hh
            have d3 : Erg 3 (xq 3) wq := hh.val 3 (by kernel_rfl) (by kernel_rfl)
            rw [Hrge3.out] at d3
            have d4 : Erg 4 (xq 4) wq := hh.val 4 (by kernel_rfl) (by kernel_rfl)
            rw [Hrge4.out] at d4
            simp only [hFrg, d3, d4]
            clear d3 d4
            refine .inl ⟨rfl, ?_⟩
            unfold Reg.upon
            have hk := Hrgk.out 5 Lq wq  hh.cls
            have hx := Hrgx.out wq
            have he : Erg 5 (.int .i64 ((k : Int) + 1)) wq := by rw [Hrge5.out]
            have HK := Lib.hid (And.intro hk (And.intro he hx))
            clear hk hx he
            go_simp
            exact HK.out
          · intro Lq wq xq hh
            have d3 : Erg 3 (xq 3) wq := hh.val 3 (by kernel_rfl) (by kernel_rfl)
            rw [Hrge3.out] at d3
            simp only [hFrg, d3]
            clear d3
            refine .inl ⟨rfl, ?_⟩
            unfold Reg.upon
            have hk := Hrgk.out 6 Lq wq  hh.cls
            have hx := Hrgx.out wq
            have he : Erg 6 (.int .i64 F) wq := by rw [Hrge6.out]
            have HK := Lib.hid (And.intro hk (And.intro he hx))
            clear hk hx he
            go_simp
            exact HK.out
          · intro Lq wq xq hh
            have d3 : Erg 3 (xq 3) wq := hh.val 3 (by kernel_rfl) (by kernel_rfl)
            rw [Hrge3.out] at d3
            have d5 : Erg 5 (xq 5) wq := hh.val 5 (by kernel_rfl) (by kernel_rfl)
            rw [Hrge5.out] at d5
            have d6 : Erg 6 (xq 6) wq := hh.val 6 (by kernel_rfl) (by kernel_rfl)
            rw [Hrge6.out] at d6
            simp only [hFrg, d3, d5, d6]
            clear d3 d5 d6
            refine .inl ⟨rfl, ?_⟩
            unfold Reg.upon
            have hk := Hrgk.out 7 Lq wq  hh.cls
            have hx := Hrgx.out wq
            have he : Erg 7 (.bool false) wq := by rw [Hrge7.out]
            have HK := Lib.hid (And.intro hk (And.intro he hx))
            clear hk hx he
            go_simp
            exact HK.out
          · intro Lq wq xq hh
            have d3 : Erg 3 (xq 3) wq := hh.val 3 (by kernel_rfl) (by kernel_rfl)
            rw [Hrge3.out] at d3
            have d7 : Erg 7 (xq 7) wq := hh.val 7 (by kernel_rfl) (by kernel_rfl)
            rw [Hrge7.out] at d7
            simp only [hFrg, d3, d7]
            clear d3 d7
            refine .inl ⟨rfl, ?_⟩
            unfold Reg.upon
            have hk := Hrgk.out 8 Lq wq  hh.cls
            have hx := Hrgx.out wq
            have he : Erg 8 (.bool false) wq := by rw [Hrge8.out]
            have HK := Lib.hid (And.intro hk (And.intro he hx))
            clear hk hx he
            go_simp
            exact HK.out
          · intro Lq wq xq hh
            have d8 : Erg 8 (xq 8) wq := hh.val 8 (by kernel_rfl) (by kernel_rfl)
            rw [Hrge8.out] at d8
            simp only [hFrg, d8]
            clear d8
            refine .inl ⟨rfl, ?_⟩
            unfold Reg.upon
            have hk := Hrgk.out 9 Lq wq  hh.cls
            have hx := Hrgx.out wq
            have he : Erg 9 (.bool false) wq := by rw [Hrge9.out]
            have HK := Lib.hid (And.intro hk (And.intro he hx))
            clear hk hx he
            go_simp
            exact HK.out
          · intro Lq wq xq hh
            have d9 : Erg 9 (xq 9) wq := hh.val 9 (by kernel_rfl) (by kernel_rfl)
            rw [Hrge9.out] at d9
            simp only [hFrg, d9]
            clear d9
            refine .inl ⟨rfl, ?_⟩
            unfold Reg.upon
            have hk := Hrgk.out 10 Lq wq  hh.cls
            have hx := Hrgx.out wq
            have he : Erg 10 (.int .i64 k) wq := by rw [Hrge10.out]
            have HK := Lib.hid (And.intro hk (And.intro he hx))
            clear hk hx he
            go_simp
            exact HK.out
          · intro Lq wq xq hh
            have d9 : Erg 9 (xq 9) wq := hh.val 9 (by kernel_rfl) (by kernel_rfl)
            rw [Hrge9.out] at d9
            simp only [hFrg, d9]
            clear d9
            refine .inl ⟨rfl, ?_⟩
            unfold Reg.upon
            have hk := Hrgk.out 11 Lq wq  hh.cls
            have hx := Hrgx.out wq
            have he : Erg 11 (.int .i64 T) wq := by rw [Hrge11.out]
            have HK := Lib.hid (And.intro hk (And.intro he hx))
            clear hk hx he
            go_simp
            exact HK.out
          · intro Lq wq xq hh
            have d9 : Erg 9 (xq 9) wq := hh.val 9 (by kernel_rfl) (by kernel_rfl)
            rw [Hrge9.out] at d9
            have d10 : Erg 10 (xq 10) wq := hh.val 10 (by kernel_rfl) (by kernel_rfl)
            rw [Hrge10.out] at d10
            have d11 : Erg 11 (xq 11) wq := hh.val 11 (by kernel_rfl) (by kernel_rfl)
            rw [Hrge11.out] at d11
            simp only [hFrg, d9, d10, d11]
            clear d9 d10 d11
            refine .inl ⟨rfl, ?_⟩
            unfold Reg.upon
            have hk := Hrgk.out 12 Lq wq  hh.cls
            have hx := Hrgx.out wq
            have he : Erg 12 (.bool false) wq := by rw [Hrge12.out]
            have HK := Lib.hid (And.intro hk (And.intro he hx))
            clear hk hx he
            go_simp
            exact HK.out
          · intro Lq wq xq hh
            have d9 : Erg 9 (xq 9) wq := hh.val 9 (by kernel_rfl) (by kernel_rfl)
            rw [Hrge9.out] at d9
            have d12 : Erg 12 (xq 12) wq := hh.val 12 (by kernel_rfl) (by kernel_rfl)
            rw [Hrge12.out] at d12
            simp only [hFrg, d9, d12]
            clear d9 d12
            refine .inl ⟨rfl, ?_⟩
            unfold Reg.upon
            have hk := Hrgk.out 13 Lq wq  hh.cls
            have hx := Hrgx.out wq
            have he : Erg 13 (.bool false) wq := by rw [Hrge13.out]
            have HK := Lib.hid (And.intro hk (And.intro he hx))
            clear hk hx he
            go_simp
            exact HK.out
          · intro Lq wq xq hh
            have d13 : Erg 13 (xq 13) wq := hh.val 13 (by kernel_rfl) (by kernel_rfl)
            rw [Hrge13.out] at d13
            simp only [hFrg, d13]
            clear d13
            refine .inl ⟨rfl, ?_⟩
            unfold Reg.upon
            have hk := Hrgk.out 14 Lq wq  hh.cls
            have hx := Hrgx.out wq
            have he : Erg 14 (.bool false) wq := by rw [Hrge14.out]
            have HK := Lib.hid (And.intro hk (And.intro he hx))
            clear hk hx he
            go_simp
            exact HK.out
          · intro Lq wq xq hh
            have d14 : Erg 14 (xq 14) wq := hh.val 14 (by kernel_rfl) (by kernel_rfl)
            rw [Hrge14.out] at d14
            simp only [hFrg, d14]
            clear d14
            exact .inr ⟨rfl, Hrgk.out 15 Lq wq  hh.cls, (by rw [Hrge15.out])⟩
          · intro Lq wq xq hh
            have d14 : Erg 14 (xq 14) wq := hh.val 14 (by kernel_rfl) (by kernel_rfl)
            rw [Hrge14.out] at d14
            have d15 : Erg 15 (xq 15) wq := hh.val 15 (by kernel_rfl) (by kernel_rfl)
            rw [Hrge15.out] at d15
            simp only [hFrg, d14, d15]
            clear d14 d15
            exact .inr ⟨rfl, Hrgk.out 16 Lq wq  hh.cls, (by rw [Hrge16.out])⟩
          · intro Lq wq xq hh
            have d14 : Erg 14 (xq 14) wq := hh.val 14 (by kernel_rfl) (by kernel_rfl)
            rw [Hrge14.out] at d14
            simp only [hFrg, d14]
            clear d14
            exact .inr ⟨rfl, Hrgk.out 17 Lq wq  hh.cls, (by rw [Hrge17.out])⟩
          · intro Lq wq xq hh
            have d14 : Erg 14 (xq 14) wq := hh.val 14 (by kernel_rfl) (by kernel_rfl)
            rw [Hrge14.out] at d14
            simp only [hFrg, d14]
            clear d14
            exact .inr ⟨rfl, Hrgk.out 18 Lq wq  hh.cls, (by rw [Hrge18.out])⟩
          · intro Lq wq xq hh
            have d14 : Erg 14 (xq 14) wq := hh.val 14 (by kernel_rfl) (by kernel_rfl)
            rw [Hrge14.out] at d14
            simp only [hFrg, d14]
            clear d14
            exact .inr ⟨rfl, Hrgk.out 19 Lq wq  hh.cls, (by rw [Hrge19.out])⟩
          · intro Lq wq xq hh
            have d14 : Erg 14 (xq 14) wq := hh.val 14 (by kernel_rfl) (by kernel_rfl)
            rw [Hrge14.out] at d14
            have d19 : Erg 19 (xq 19) wq := hh.val 19 (by kernel_rfl) (by kernel_rfl)
            rw [Hrge19.out] at d19
            simp only [hFrg, d14, d19]
            clear d14 d19
            exact .inr ⟨rfl, Hrgk.out 20 Lq wq  hh.cls, (by rw [Hrge20.out])⟩
          · intro Lq wq xq hh
            have d14 : Erg 14 (xq 14) wq := hh.val 14 (by kernel_rfl) (by kernel_rfl)
            rw [Hrge14.out] at d14
            have d17 : Erg 17 (xq 17) wq := hh.val 17 (by kernel_rfl) (by kernel_rfl)
            rw [Hrge17.out] at d17
            have d18 : Erg 18 (xq 18) wq := hh.val 18 (by kernel_rfl) (by kernel_rfl)
            rw [Hrge18.out] at d18
            have d20 : Erg 20 (xq 20) wq := hh.val 20 (by kernel_rfl) (by kernel_rfl)
            rw [Hrge20.out] at d20
            simp only [hFrg, d14, d17, d18, d20]
            clear d14 d17 d18 d20
            exact .inr ⟨rfl, Hrgk.out 21 Lq wq  hh.cls, (by rw [Hrge21.out])⟩
          · intro Lq wq xq hh
            have d14 : Erg 14 (xq 14) wq := hh.val 14 (by kernel_rfl) (by kernel_rfl)
            rw [Hrge14.out] at d14
            have d16 : Erg 16 (xq 16) wq := hh.val 16 (by kernel_rfl) (by kernel_rfl)
            rw [Hrge16.out] at d16
            have d21 : Erg 21 (xq 21) wq := hh.val 21 (by kernel_rfl) (by kernel_rfl)
            rw [Hrge21.out] at d21
            simp only [hFrg, d14, d16, d21]
            clear d14 d16 d21
            exact .inr ⟨rfl, Hrgk.out 22 Lq wq  hh.cls, (by rw [Hrge22.out])⟩
          · intro Lq wq xq hh
            have d14 : Erg 14 (xq 14) wq := hh.val 14 (by kernel_rfl) (by kernel_rfl)
            rw [Hrge14.out] at d14
            have d22 : Erg 22 (xq 22) wq := hh.val 22 (by kernel_rfl) (by kernel_rfl)
            rw [Hrge22.out] at d22
            simp only [hFrg, d14, d22]
            clear d14 d22
            exact .inr ⟨rfl, Hrgk.out 23 Lq wq  hh.cls, (by rw [Hrge23.out])⟩
          · intro Lq wq xq hh
            have d14 : Erg 14 (xq 14) wq := hh.val 14 (by kernel_rfl) (by kernel_rfl)
            rw [Hrge14.out] at d14
            have d23 : Erg 23 (xq 23) wq := hh.val 23 (by kernel_rfl) (by kernel_rfl)
            rw [Hrge23.out] at d23
            simp only [hFrg, d14, d23]
            clear d14 d23
            refine .inl ⟨rfl, ?_⟩
            unfold Reg.upon
            have hk := Hrgk.out 24 Lq wq  hh.cls
            have hx := Hrgx.out wq
            have he : Erg 24 (.bool false) wq := by rw [Hrge24.out]
            have HK := Lib.hid (And.intro hk (And.intro he hx))
            clear hk hx he
            go_simp
            exact HK.out
        intro xq wrg hcrg hvrg
        rw [HrghC.out] at hcrg
        simp only [hFrg]
        have vrg24 : Erg 24 (xq 24) wrg := hvrg 24 (by decide)
        rw [Hrge24.out] at vrg24
        rw [vrg24]
        clear hvrg hFrg Hrgk Hrgx Hrgst Hrgc HrghC HrghX Hrgb Hrgxb Hrge0 Hrge1 Hrge2 Hrge3 Hrge4 Hrge5 Hrge6 Hrge7 Hrge8 Hrge9 Hrge10 Hrge11 Hrge12 Hrge13 Hrge14 Hrge15 Hrge16 Hrge17 Hrge18 Hrge19 Hrge20 Hrge21 Hrge22 Hrge23 Hrge24
        obtain ⟨w7, hw7⟩ : ∃ w7, w7 = wrg := ⟨_, rfl⟩
        rw [← hw7] at hcrg ⊢
        clear hw7 vrg24
        replace B := Lib.hid (B.out.trans (hcrg.mono B.out.size))
        replace R := Lib.hid (R.out.below hcrg)
        clear hcrg
        go_wp2
        go_roundw
        case rel => exact ⟨k + 1, by omega, by go_num, R.out, B.out⟩
        case measure => simp [intOf] <;> omega
    · have hnl : ¬ (k < L.length) := hlt
      go_wp2
      go_ret
      exact ⟨(ret_eq (by first | rfl | (simp <;> omega))), B.out⟩
set_option maxRecDepth 100000 in
theorem walk {H : Type} {enc : TypeId × Value → H} (W : World) (u : Value) {base : Nat} {d : DataW H} {p : List MemPlace} (hv : Value.okWide Tryd.prog W .any base 22 u) (h : DataW.Trod enc Tryd.prog W 0 (fun _ => true) true 22 u d p) (f : Int) (_ : (Lit.int .i64 f).wf = true) (t : Int) (_ : (Lit.int .i64 t).wf = true) (_ : laidMetH Tryd.prog Rows.eraseFarRow.laid W) : Calls Tryd.prog 7 #[u, .int .i64 f, .int .i64 t] W (Yes W) := by
  obtain ⟨L, hL, _⟩ := cells_arg hv h
  exact walkH W u L _ hL f t

theorem door_met (os : Os) : laidMetH Tryd.prog Rows.eraseFarRow.laid ((World.doorLaid Tryd.prog 400 os).forCall (fun _ _ => 0) ⟨#[], #[.slice none 0 0, .int .i64 0, .int .i64 0], []⟩).memory :=
  laidMetH_of_parts3 (fuel := 8) (laidMet_of_run' 8 (by kernel_rfl) (by kernel_rfl)) (by kernel_rfl) (by kernel_rfl)

set_option maxRecDepth 100000 in
theorem lifted (os : Os) (started : os.Started) (H : Type) (enc : TypeId × Value → H) :
    ReturnsInHanded {} Tryd.checked os 7 .any (fun w args => (Rows.eraseFarSpec.pre enc Tryd.prog Tryd.f7 [] false w args ∧ laidMetH Tryd.prog Rows.eraseFarRow.laid w) ∧ sizedMet enc Tryd.prog Tryd.f7 (OpenSpec.ofChange Rows.eraseFarSpec) false w args)
      (Rows.eraseFarSpec.post enc Tryd.prog Tryd.f7 false true false false) := by
  refine law_frame (C := Tryd.checked) (tb := 4) (by kernel_rfl) started (by kernel_rfl) Tryd.func7 (by kernel_rfl) (by kernel_rfl) Tryd.underlying4 rfl
    (by rw [Tryd.params7]; intro t ht; simp at ht; rcases ht with rfl | rfl <;> exact ⟨by kernel_rfl, of_decide_eq_true (by kernel_rfl)⟩)
    (by rw [Tryd.params7]; intro ds hd; match ds, hd with | [_, _, _], _ => rfl)
    (ChangeSpec.witness_shaped (enc := enc) (C := Tryd.checked) (os := os) (X := fun w _ => laidMetH Tryd.prog Rows.eraseFarRow.laid w) false (World.doorLaid Tryd.prog 400 os) #[.slice none 0 0, .int .i64 0, .int .i64 0] 8 rfl (World.shaped_of_RefB (by kernel_rfl) (by kernel_rfl)) (by kernel_rfl) (by kernel_rfl) (by kernel_rfl) (door_met os)) ?_
  intro W base args ds before hval hA hsz hL
  rw [Tryd.params7] at hA hval
  obtain ⟨v0, vs0, d0, ds0, p0, q0, hargs, rfl, rfl, h0, r0⟩ := trodAll_cons hA
  obtain ⟨v1, vs1, d1, ds1, p1, q1, rfl, rfl, rfl, h1, r1⟩ := trodAll_cons r0
  obtain ⟨v2, vs2, d2, ds2, p2, q2, rfl, rfl, rfl, h2, r2⟩ := trodAll_cons r1
  obtain ⟨rfl, rfl, rfl⟩ := trodAll_nil r2
  obtain rfl : args = #[v0, v1, v2] := by cases args; simp_all
  obtain ⟨x1, rfl, rfl, rfl, wx1⟩ := open_int Tryd.underlying3 (hval 1 3 v1 rfl rfl) h1
  obtain ⟨x2, rfl, rfl, rfl, wx2⟩ := open_int Tryd.underlying3 (hval 2 3 v2 rfl rfl) h2
  exact walk W v0 (hval 0 22 v0 rfl rfl) h0 x1 wx1 x2 wx2 hL

theorem said : Rows.EraseFarSaid :=
  OpenClaim.holds_of_wide 7 Tryd.f7 rfl rfl rfl rfl rfl rfl rfl ⟨rfl, rfl, rfl, rfl, rfl⟩ rfl rfl rfl rfl rfl (by kernel_rfl) Tryd.func7 (by kernel_rfl)
    (of_decide_eq_true (by kernel_rfl)) (by unfold Func.isWrapper; first | (rw [if_pos (by decide +kernel)]; kernel_rfl) | (rw [if_neg (by decide +kernel)]; exact ⟨rfl, rfl⟩))
    (fun os started H enc _ => lifted os started H enc)

theorem plain (f : FuncId) (fn : Func) (hf : Tryd.pinned.checked.prog.funcNamed "linotype/linotypelaw26.EraseFar" = some f) (hfn : Tryd.pinned.checked.prog.funcs[f]? = some fn) :
    true = Tryd.pinned.checked.prog.looks [] ∧ ∀ (j : Nat) t, fn.params[j]? = some t → Tryd.pinned.checked.prog.wantsStandIn t = false := by
  obtain rfl : f = 7 := Option.some.inj ((show Tryd.prog.funcNamed "linotype/linotypelaw26.EraseFar" = some 7 by kernel_rfl).symm.trans hf) |>.symm
  obtain rfl : fn = Tryd.f7 := (Option.some.inj (Tryd.func7.symm.trans hfn)).symm
  refine ⟨by kernel_rfl, fun j t ht => ?_⟩
  rw [Tryd.params7] at ht
  have hm : t ∈ [22, 3, 3] := by simpa using Array.mem_of_getElem? ht
  have hall : ([22, 3, 3].all fun u => !Tryd.prog.wantsStandIn u) = true := by kernel_rfl
  exact (show Tryd.prog.wantsStandIn t = false by simpa using List.all_eq_true.1 hall t hm)

/-- THE CARD. -/
theorem card : Rows.EraseFarCardSaid :=
  Claim7.holds_tied_plain_at .later [] _ _ _ _ said (fun _ h => by cases h) (by kernel_rfl) (fun _ h => by cases h) eraseFar_row_tie rfl ⟨rfl, rfl⟩ (by kernel_rfl) rfl plain (by kernel_rfl)
#print axioms card

end Go.Proofs.YtomfclkldmmmgaaDoor.lawEraseFar
