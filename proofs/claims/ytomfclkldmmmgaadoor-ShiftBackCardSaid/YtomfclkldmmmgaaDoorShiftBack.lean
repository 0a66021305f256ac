/- ShiftBack (27.3) answers true at every sound row, column and number, and turns nothing. -/
import Derived.Test.YtomfclkldmmmgaaDoorShfW
import Derived.Test.YtomfclkldmmmgaaDoorCellU
import Derived.Test.YtomfclkldmmmgaaDoorCellS
import Derived.Test.YtomfclkldmmmgaaDoorErrS
import Derived.Test.YtomfclkldmmmgaaDoorCards
import Derived.Test.YtomfclkldmmmgaaDoorTie
import Derived.ProofKit
import Derived.Lib.MinMax
namespace Go.Proofs.YtomfclkldmmmgaaDoor.lawShiftBack
open Go.ChangeShapes Go.WideShapes Go.ChangeAt Go.RowKit
theorem back_spec {L : List Cl} (hs : soundB L = true) {c m : Nat} (hm : 0 < m) (h : c + m ≤ L.length) (h3 : (L.getD c zc).1 ≠ 3) :
    (∀ i, c ≤ i → i < c + m → ((insL L c m).getD i zc) = zc) ∧ ∀ i, i < L.length → (delL (insL L c m) c m).getD i zc = if L.length - m ≤ i ∨ i + 1 = L.length - m ∧ (L.getD i zc).1 = 2 then zc else L.getD i zc := by
  have ht : tearL L c = L := tear_out h3
  have hX := fun i hi => ins_at (L := L) h i hi
  rw [ht] at hX
  have hXl := ins_len (L := L) h
  have hp := (sound_prop L).1 hs
  obtain ⟨X, hXX⟩ : ∃ X, X = insL L c m := ⟨_, rfl⟩
  rw [← hXX] at hX hXl ⊢
  have hb : ∀ i, c ≤ i → i < c + m → X.getD i zc = zc := fun i h1 h2 => by
    rw [hX i (by omega), if_neg (by omega), if_pos h2]
    simp
  refine ⟨hb, fun i hi => ?_⟩
  have t1 : tearL X c = X := tear_out (by rw [hb c (Nat.le_refl _) (by omega)]; decide)
  have t2 : tearL X (c + m) = X := tear_out (by
    rcases Nat.lt_or_ge (c + m) L.length with hlt | hge
    · rw [hX (c + m) hlt, if_neg (by omega), if_neg (by omega), show c + m - m = c by omega]
      simp only
      split
      · decide
      · exact h3
    · rw [getD_ge X zc (c + m) (by omega)]; decide)
  rw [del_at (L := X) (by rw [hXl]; exact h) i (by rw [hXl]; exact hi), t1, t2, hXl]
  by_cases h1 : i < c
  · have hno : ¬ (L.length - m ≤ i ∨ i + 1 = L.length - m ∧ (L.getD i zc).1 = 2) := by
      rintro (h | ⟨h, h2⟩)
      · omega
      · have := (hp i hi).2.1 h2
        rw [show i + 1 = c by omega] at this
        exact h3 this
    rw [if_pos h1, hX i hi, if_pos h1, if_neg hno]
    simp only
    rw [if_neg (by omega)]
  · rw [if_neg h1]
    by_cases h2 : i + m < L.length
    · rw [if_pos h2, hX (i + m) h2, if_neg (by omega), if_neg (by omega), show i + m - m = i by omega]
      simp only
      by_cases h4 : i + m + 1 = L.length ∧ (L.getD i zc).1 = 2
      · rw [if_pos h4, if_pos (.inr ⟨by omega, h4.2⟩)]
      · rw [if_neg h4, if_neg]
        rintro (h5 | h5)
        · omega
        · exact h4 ⟨by omega, h5.2⟩
    · rw [if_neg h2, if_pos (.inl (by omega))]
theorem pair_same {Y Y2 : Zone} {w5 : World} (K : Int) (tv : Value) (T : List Int) (K' : Int) (tv' : Value) (T' : List Int) (h : HeldE (intE .i32) Y w5 tv T) (h' : HeldE (intE .i32) Y2 w5 tv' T') :
    Calls Tryd.prog 20 #[.slice (some ⟨w5.heap.size + 2, 0, none⟩) 1 1, .slice (some ⟨w5.heap.size + 3, 0, none⟩) 1 1] ((((w5.alloc (.cells #[.int .i64 K, tv] 27)).alloc (.cells #[.int .i64 K', tv'] 27)).alloc (.cells #[.int .i64 K, tv] 27)).alloc (.cells #[.int .i64 K', tv'] 27)) (fun e w' => e = .returned (.bool (sameC [(K, T)] [(K', T')])) ∧ Below w5.heap.size w5 w') := by
  obtain ⟨Q1, e1⟩ : ∃ Q1, Q1 = w5.alloc (.cells #[.int .i64 K, tv] 27) := ⟨_, rfl⟩
  obtain ⟨Q2, e2⟩ : ∃ Q2, Q2 = Q1.alloc (.cells #[.int .i64 K', tv'] 27) := ⟨_, rfl⟩
  obtain ⟨Q3, e3⟩ : ∃ Q3, Q3 = Q2.alloc (.cells #[.int .i64 K, tv] 27) := ⟨_, rfl⟩
  obtain ⟨Q4, e4⟩ : ∃ Q4, Q4 = Q3.alloc (.cells #[.int .i64 K', tv'] 27) := ⟨_, rfl⟩
  have b1 : Below w5.heap.size w5 Q1 := by rw [e1]; exact (Below.refl _ _).alloc (Nat.le_refl _) _
  have b2 : Below Q1.heap.size Q1 Q2 := by rw [e2]; exact (Below.refl _ _).alloc (Nat.le_refl _) _
  have b3 : Below Q2.heap.size Q2 Q3 := by rw [e3]; exact (Below.refl _ _).alloc (Nat.le_refl _) _
  have b4 : Below Q3.heap.size Q3 Q4 := by rw [e4]; exact (Below.refl _ _).alloc (Nat.le_refl _) _
  have s1 : Q1.heap.size = w5.heap.size + 1 := by rw [e1]; simp
  have s2 : Q2.heap.size = w5.heap.size + 2 := by rw [e2]; simp [s1]
  have s3 : Q3.heap.size = w5.heap.size + 3 := by rw [e3]; simp [s2]
  have b12 := b1.trans (b2.mono b1.size)
  have b13 := b12.trans (b3.mono b12.size)
  have b14 := b13.trans (b4.mono b13.size)
  have h1 := (strip1_own (fun _ => True) Q2 (B := 0) K tv T ((h.below b12).zone (fun _ _ _ => trivial)) (Nat.zero_le _)).held (fun _ _ _ => trivial)
  have h2 := (strip1_own (fun _ => True) Q3 (B := 0) K' tv' T' ((h'.below b13).zone (fun _ _ _ => trivial)) (Nat.zero_le _)).held (fun _ _ _ => trivial)
  rw [← e3, s2] at h1
  rw [← e4, s3] at h2
  rw [← e1, ← e2, ← e3, ← e4]
  refine (rcsame_any _ _ _ _ _ _ Q4 (h1.below b4) h2).mono ?_
  rintro e w6 ⟨rfl, b6⟩
  exact ⟨rfl, b14.trans (b6.mono b14.size)⟩
set_option maxRecDepth 100000 in
set_option maxHeartbeats 3000000 in
theorem walkH (W : World) (va : Value) (L : List Cl) (Z : Zone) (ha : HeldE cellE Z W va L) (c n : Int) : Calls Tryd.prog 9 #[va, .int .i64 c, .int .i64 n] W (Yes W) := by
  have hla := ha.max
  have ha := ha.lower
  obtain ⟨ao, ca, rfl⟩ := ha.len
  obtain ⟨_, hca, hca2, hao, _⟩ := id ha
  have HA := Lib.hid ha
  clear ha
  by_cases h1 : 100 < L.length
  · go_enter Tryd.func9, Tryd.ntmps9
    go_wp2_with fail
    refine (works27_any _).mono ?_
    rintro e w1 ⟨rfl, b1⟩
    go_wp2_with fail
    refine (works27_any _).mono ?_
    rintro e w2 ⟨rfl, b2⟩
    have b2 := b1.trans (b2.mono b1.size)
    go_wp2
    go_ret
    exact ⟨(ret_eq (by first | rfl | (simp <;> omega))), b2⟩
  have hd60 : decide ((100 : Int) < L.length) = false := by simp; omega
  by_cases h0 : L.length = 0
  · have hz : ((L.length : Int) == 0) = true := by rw [beq_iff_eq]; omega
    go_enter Tryd.func9, Tryd.ntmps9
    go_wp2_with fail
    refine (works27_any _).mono ?_
    rintro e w1 ⟨rfl, b1⟩
    go_wp2_with fail
    refine (works27_any _).mono ?_
    rintro e w2 ⟨rfl, b2⟩
    have b2 := b1.trans (b2.mono b1.size)
    go_wp2
    go_ret
    exact ⟨(ret_eq (by first | rfl | (simp <;> omega))), b2⟩
  have hz : ((L.length : Int) == 0) = false := by rw [beq_eq_false_iff_ne]; omega
  by_cases hs : soundB L = false
  · go_enter Tryd.func9, Tryd.ntmps9
    go_wp2_with fail
    refine (works27_any _).mono ?_
    rintro e w1 ⟨rfl, b1⟩
    have hse := rsound_any _ _ _ _ (HA.out.below b1)
    rw [← sound_iff, hs] at hse
    go_wp2_with fail
    refine hse.mono ?_
    rintro e w2 ⟨rfl, b2⟩
    have b2 := b1.trans (b2.mono b1.size)
    go_wp2_with fail
    refine (works27_any _).mono ?_
    rintro e w3 ⟨rfl, b3⟩
    have b3 := b2.trans (b3.mono b2.size)
    go_wp2
    go_ret
    exact ⟨(ret_eq (by first | rfl | (simp <;> omega))), b3⟩
  have hs : soundB L = true := by simpa using hs
  by_cases hbad : c < 0 ∨ (L.length : Int) ≤ c ∨ n < 1
  · have hq : ∃ q0 q1 q2, decide (c < 0) = q0 ∧ decide ((L.length : Int) ≤ c) = q1 ∧ decide (n < 1) = q2 ∧ (q0 = true ∨ q0 = false ∧ q1 = true ∨ q0 = false ∧ q1 = false ∧ q2 = true) := by
      refine ⟨_, _, _, rfl, rfl, rfl, ?_⟩
      by_cases h1 : c < 0
      · left; simp; omega
      · by_cases h2 : (L.length : Int) ≤ c
        · right; left; exact ⟨by simp; omega, by simp; omega⟩
        · right; right; exact ⟨by simp; omega, by simp; omega, by simp; omega⟩
    obtain ⟨q0, q1, q2, hq0, hq1, hq2, hq⟩ := hq
    clear hbad
    rcases hq with rfl | ⟨rfl, rfl⟩ | ⟨rfl, rfl, rfl⟩
    all_goals
      go_enter Tryd.func9, Tryd.ntmps9
      go_wp2_with fail
      refine (works27_any _).mono ?_
      rintro e w1 ⟨rfl, b1⟩
      have hse := rsound_any _ _ _ _ (HA.out.below b1)
      rw [← sound_iff, hs] at hse
      go_wp2_with fail
      refine hse.mono ?_
      rintro e w2 ⟨rfl, b2⟩
      have b2 := b1.trans (b2.mono b1.size)
      go_wp2_with fail
      refine (works27_any _).mono ?_
      rintro e w3 ⟨rfl, b3⟩
      have b3 := b2.trans (b3.mono b2.size)
      go_wp2
      go_ret
      exact ⟨(ret_eq (by first | rfl | (simp <;> omega))), b3⟩
  obtain ⟨k0, rfl⟩ := Int.eq_ofNat_of_zero_le (show 0 ≤ c by omega)
  obtain ⟨m, hm⟩ : ∃ m : Nat, min n ((L.length : Int) - k0) = m := ⟨(min n ((L.length : Int) - k0)).toNat, by omega⟩
  have hkl : k0 < L.length := by omega
  have hm0 : 0 < m := by omega
  have hcm : k0 + m ≤ L.length := by omega
  have hd0 : decide ((k0 : Int) < 0) = false := by simp
  have hd1 : decide ((L.length : Int) ≤ k0) = false := by simp; omega
  have hd1n : decide (L.length ≤ k0) = false := by simp; omega
  have hd2 : decide (n < 1) = false := by simp; omega
  have hww : IntKind.i64.wrap ((L.length : Int) - k0) = (L.length : Int) - k0 := by rw [IntKind.wrap_i64]; omega
  have HAT := Lib.hid (cells_at HA.out).2.2
  obtain ⟨b9, off9, tv9, e9, hb9, _, k9, _, _⟩ := HAT.out k0 hkl
  subst e9
  by_cases h3 : (L.getD k0 zc).1 = 3
  · rw [h3] at k9
    clear hbad
    go_enter Tryd.func9, Tryd.ntmps9
    go_wp2_with fail
    refine (works27_any _).mono ?_
    rintro e w1 ⟨rfl, b1⟩
    have hse := rsound_any _ _ _ _ (HA.out.below b1)
    rw [← sound_iff, hs] at hse
    go_wp2_with fail
    refine hse.mono ?_
    rintro e w2 ⟨rfl, b2⟩
    have b2 := b1.trans (b2.mono b1.size)
    have k9 := (b2.cell (p := ⟨b9, off9 + k0 * 2, none⟩) hb9).trans k9
    clear b1 hse
    go_wp2
    go_ret
    exact ⟨(ret_eq (by first | rfl | (simp <;> omega))), b2⟩
  have HSPEC := Lib.hid (back_spec hs hm0 hcm h3)
  obtain ⟨K9, hK9⟩ : ∃ K9, K9 = (L.getD k0 zc).1 := ⟨_, rfl⟩
  rw [← hK9] at k9 h3
  have hk9b : (K9 == 3) = false := by rw [beq_eq_false_iff_ne]; exact h3
  have HS := Lib.hid hs
  have HLL := Lib.hid (show 0 < L.length ∧ L.length ≤ 100 by omega)
  have HK9 := Lib.hid k9
  have HCM := Lib.hid (And.intro hcm hm0)
  have HXL := Lib.hid (ins_len hcm)
  have HYL := Lib.hid (show (delL (insL L k0 m) k0 m).length = L.length by rw [del_len (by rw [ins_len hcm]; exact hcm), ins_len hcm])
  have HM2 := Lib.hid (show min (m : Int) ((L.length : Int) - k0) = m by omega)
  clear hbad hK9 h3 k9
  go_enter Tryd.func9, Tryd.ntmps9
  go_wp2_with fail
  refine (works27_any _).mono ?_
  rintro e w1 ⟨rfl, b1⟩
  have hse := rsound_any _ _ _ _ (HA.out.below b1)
  rw [← sound_iff, hs] at hse
  clear hs
  go_wp2_with fail
  refine hse.mono ?_
  rintro e w2 ⟨rfl, b2⟩
  have B := Lib.hid (b1.trans (b2.mono b1.size))
  clear b1 b2 hse
  have HP := Lib.hid (rof_ok _ _ _ _ (HA.out.below B.out) HLL.out.1 (by have := HLL.out; omega) HS.out)
  have k9 := (B.out.cell (p := ⟨b9, off9 + k0 * 2, none⟩) hb9).trans HK9.out
  go_wp2_with fail
  clear hd60 hz h1 h0 hd0 hd1 hd1n hd2 hww k9 hk9b hm
  refine HP.out.mono ?_
  rintro e w3 ⟨g, gc, rfl, hr3, b3⟩
  have hr3 := hr3.any
  have hlt := hr3.lt
  have HLT := Lib.hid (show W.heap.size ≤ g ∧ W.heap.size ≤ gc ∧ g < w3.heap.size ∧ gc < w3.heap.size from by have := B.out.size; omega)
  replace B := Lib.hid (B.out.trans (b3.mono B.out.size))
  clear b3
  have HI := Lib.hid (sins_good _ g gc L _ k0 m (m : Int) w3 hr3 hkl (by omega) HM2.out)
  clear hr3 hlt HP
  go_wp2_with fail
  refine HI.out.mono ?_
  rintro e w4 ⟨rfl, hr4, u4⟩
  have R := Lib.hid hr4
  replace B := Lib.hid (B.out.upd u4 B.out.size (fun x e => by have := HLT.out; rcases e with e | e <;> omega))
  clear hr4 u4 HI
  have hw5 : IntKind.i64.wrap ((k0 : Int) + m) = (k0 : Int) + m := by rw [IntKind.wrap_i64]; omega
  obtain ⟨X, hX⟩ : ∃ X, X = insL L k0 m := ⟨_, rfl⟩
  rw [← hX] at R HSPEC HXL HYL
  clear hX
  have hk100 : k0 + m ≤ 100 := by have := HLL.out; omega
  have hl100 : L.length ≤ 100 := HLL.out.2
  go_wp2
  go_loopw [9] (fun iv wr => ∃ k : Nat, k0 ≤ k ∧ k ≤ k0 + m ∧ iv = .int .i64 k ∧ RowAt (fun _ => True) wr w2.heap.size g gc X false ∧ Below W.heap.size W wr) (fun iv _ => k0 + m - (intOf iv).toNat)
  case atStart => exact ⟨k0, Nat.le_refl _, by omega, rfl, R.out, B.out⟩
  case round =>
    obtain ⟨k, hk1, hk2, rfl, hr, hbw⟩ := hrel
    replace R := Lib.hid hr
    replace B := Lib.hid hbw
    clear hr hbw
    by_cases hlt : k < k0 + m
    · have hdk : decide ((k : Int) < (k0 : Int) + m) = true := by simp; omega
      have HC := Lib.hid (rcell_in _ _ g gc _ _ k wr R.out (by rw [HXL.out]; omega))
      rw [HSPEC.out.1 k hk1 hlt] at HC
      go_wp2_with fail
      refine HC.out.mono ?_
      rintro e w5 ⟨tv, rfl, h5, b5⟩
      obtain ⟨ta, tc, rfl⟩ := h5.len
      have b6 := b5.trans (((Below.refl w5.heap.size w5).alloc (Nat.le_refl _) (.cells #[.int .i64 0, .slice ta ([] : List Int).length tc] 27)).mono b5.size)
      simp only [List.length_nil] at b6 ⊢
      replace B := Lib.hid (B.out.trans (b6.mono B.out.size))
      replace R := Lib.hid (R.out.below b6)
      clear b6
      clear h5 b5 hdk HC
      go_wp2
      go_roundw
      case rel => exact ⟨k + 1, by omega, by omega, by go_num, R.out, B.out⟩
      case measure => simp [intOf] <;> omega
    · have hdk : decide ((k : Int) < (k0 : Int) + m) = false := by simp; omega
      have hdkn : decide (k < k0 + m) = false := by simp; omega
      have HD := Lib.hid (sdel_good _ g gc X _ k0 m (m : Int) wr R.out (by rw [HXL.out]; omega) (by omega) (by rw [HXL.out]; exact HM2.out))
      go_wp2_with fail
      clear hdk hdkn
      refine HD.out.mono ?_
      rintro e w6 ⟨rfl, hr6, u6⟩
      replace R := Lib.hid hr6
      replace B := Lib.hid (B.out.upd u6 B.out.size (fun x e => by have := HLT.out; rcases e with e | e <;> omega))
      clear hr6 u6 HD hk1 hk2 hlt
      obtain ⟨Y, hY⟩ : ∃ Y, Y = delL X k0 m := ⟨_, rfl⟩
      rw [← hY] at R HSPEC HYL
      clear hY
      obtain ⟨N, hN⟩ : ∃ N : Nat, (L.length : Int) - m = N := ⟨L.length - m, by omega⟩
      have HNL := Lib.hid (show L.length - m = N by omega)
      have hNw : IntKind.i64.wrap (N : Int) = (N : Int) := by rw [IntKind.wrap_i64]; omega
      have hsp := HSPEC.out.2
      rw [HNL.out] at hsp
      have HSP := Lib.hid hsp
      clear hsp HSPEC
      go_wp2
      go_loopw [12] (fun iv wr => ∃ k : Nat, k ≤ L.length ∧ iv = .int .i64 k ∧ RowAt (fun _ => True) wr w2.heap.size g gc Y false ∧ Below W.heap.size W wr) (fun iv _ => L.length - (intOf iv).toNat)
      case atStart => exact ⟨0, Nat.zero_le _, rfl, R.out, B.out⟩
      case round =>
        obtain ⟨k2, hk, rfl, hr, hbw⟩ := hrel
        replace R := Lib.hid hr
        replace B := Lib.hid hbw
        clear hr hbw
        by_cases hlt : k2 < L.length
        · have hv := HSP.out k2 hlt
          have HC := Lib.hid (rcell_in _ _ g gc _ _ k2 wr R.out (by rw [HYL.out]; exact hlt))
          obtain ⟨b, off, tv2, e2, hb, _, c0, c1, hh⟩ := HAT.out k2 hlt
          cases e2
          obtain ⟨⟨K2, T2⟩, hK2⟩ : ∃ y, y = L.getD k2 zc := ⟨_, rfl⟩
          rw [← hK2] at c0 hh hv
          simp only at c0 hh hv
          have HHL := Lib.hid hh
          obtain ⟨ta2, tc2, rfl⟩ := hh.len
          have hw2 : IntKind.i64.wrap ((k2 : Int) + 1) = (k2 : Int) + 1 := by rw [IntKind.wrap_i64]; omega
          clear hh hK2
          by_cases hA : N ≤ k2
          · have hdA : decide ((N : Int) ≤ k2) = true := by simp; omega
            have HV := Lib.hid (show Y.getD k2 zc = (0, []) by rw [hv, if_pos (.inl hA)])
            clear hv
            rw [HV.out] at HC
            go_wp2_with fail
            refine HC.out.mono ?_
            rintro e w5 ⟨tv, rfl, h5, b5⟩
            obtain ⟨ta, tc, rfl⟩ := h5.len
            simp only [List.length_nil] at h5 ⊢
            have c0 := ((B.out.trans (b5.mono B.out.size)).cell (p := ⟨b9, off9 + k2 * 2, none⟩) hb).trans c0
            have c1 := ((B.out.trans (b5.mono B.out.size)).cell (p := ⟨b9, off9 + k2 * 2 + 1, none⟩) hb).trans c1
            have hb5 : b9 < w5.heap.size := Nat.lt_of_lt_of_le hb (B.out.trans (b5.mono B.out.size)).size
            have HPS := Lib.hid (pair_same 0 (.slice ta 0 tc) ([] : List Int) 0 (.slice none 0 0) [] h5 (HeldE.nil (intE .i32) (fun _ => True) w5))
            rw [sameC_self] at HPS
            replace B := Lib.hid (B.out.trans (b5.mono B.out.size))
            replace R := Lib.hid (R.out.below b5)
            clear b5
            clear h5 HC
            go_wp2_with fail
            refine HPS.out.mono ?_
            rintro e w6 ⟨rfl, b6⟩
            replace B := Lib.hid (B.out.trans (b6.mono B.out.size))
            replace R := Lib.hid (R.out.below b6)
            clear b6
            clear HPS
            go_wp2
            go_roundw
            case rel => exact ⟨k2 + 1, by omega, by go_num, R.out, B.out⟩
            case measure => simp [intOf] <;> omega
          have hdA : decide ((N : Int) ≤ k2) = false := by simp; omega
          have hdAn : decide (N ≤ k2) = false := by simp; omega
          by_cases hB : k2 + 1 = N
          · have hdB : ((k2 : Int) + 1 == (N : Int)) = true := by rw [beq_iff_eq]; omega
            by_cases hK : K2 = 2
            · have HV := Lib.hid (show Y.getD k2 zc = (0, []) by rw [hv, if_pos (.inr ⟨hB, hK⟩)])
              subst hK
              clear hv hA hB
              rw [HV.out] at HC
              go_wp2_with fail
              refine HC.out.mono ?_
              rintro e w5 ⟨tv, rfl, h5, b5⟩
              obtain ⟨ta, tc, rfl⟩ := h5.len
              simp only [List.length_nil] at h5 ⊢
              have c0 := ((B.out.trans (b5.mono B.out.size)).cell (p := ⟨b9, off9 + k2 * 2, none⟩) hb).trans c0
              have c1 := ((B.out.trans (b5.mono B.out.size)).cell (p := ⟨b9, off9 + k2 * 2 + 1, none⟩) hb).trans c1
              have hb5 : b9 < w5.heap.size := Nat.lt_of_lt_of_le hb (B.out.trans (b5.mono B.out.size)).size
              have HPS := Lib.hid (pair_same 0 (.slice ta 0 tc) ([] : List Int) 0 (.slice none 0 0) [] h5 (HeldE.nil (intE .i32) (fun _ => True) w5))
              rw [sameC_self] at HPS
              replace B := Lib.hid (B.out.trans (b5.mono B.out.size))
              replace R := Lib.hid (R.out.below b5)
              clear b5
              clear h5 HC
              go_wp2_with fail
              refine HPS.out.mono ?_
              rintro e w6 ⟨rfl, b6⟩
              replace B := Lib.hid (B.out.trans (b6.mono B.out.size))
              replace R := Lib.hid (R.out.below b6)
              clear b6
              clear HPS
              go_wp2
              go_roundw
              case rel => exact ⟨k2 + 1, by omega, by go_num, R.out, B.out⟩
              case measure => simp [intOf] <;> omega
            · have hkb : (K2 == 2) = false := by rw [beq_eq_false_iff_ne]; exact hK
              have HV := Lib.hid (show Y.getD k2 zc = (K2, T2) by rw [hv, if_neg (by rintro (h | h); exact hA h; exact hK h.2)])
              clear hv hA hB hK
              rw [HV.out] at HC
              go_wp2_with fail
              refine HC.out.mono ?_
              rintro e w5 ⟨tv, rfl, h5, b5⟩
              obtain ⟨ta, tc, rfl⟩ := h5.len
              have c0 := ((B.out.trans (b5.mono B.out.size)).cell (p := ⟨b9, off9 + k2 * 2, none⟩) hb).trans c0
              have c1 := ((B.out.trans (b5.mono B.out.size)).cell (p := ⟨b9, off9 + k2 * 2 + 1, none⟩) hb).trans c1
              have hb5 : b9 < w5.heap.size := Nat.lt_of_lt_of_le hb (B.out.trans (b5.mono B.out.size)).size
              have HPS := Lib.hid (pair_same K2 (.slice ta T2.length tc) T2 K2 (.slice ta2 T2.length tc2) T2 h5 (HHL.out.below (B.out.trans (b5.mono B.out.size))))
              rw [sameC_self] at HPS
              replace B := Lib.hid (B.out.trans (b5.mono B.out.size))
              replace R := Lib.hid (R.out.below b5)
              clear b5
              clear h5 HC
              go_wp2_with fail
              refine HPS.out.mono ?_
              rintro e w6 ⟨rfl, b6⟩
              replace B := Lib.hid (B.out.trans (b6.mono B.out.size))
              replace R := Lib.hid (R.out.below b6)
              clear b6
              clear HPS
              go_wp2
              go_roundw
              case rel => exact ⟨k2 + 1, by omega, by go_num, R.out, B.out⟩
              case measure => simp [intOf] <;> omega
          · have hdB : ((k2 : Int) + 1 == (N : Int)) = false := by rw [beq_eq_false_iff_ne]; omega
            have HV := Lib.hid (show Y.getD k2 zc = (K2, T2) by rw [hv, if_neg (by rintro (h | h); exact hA h; exact hB h.1)])
            clear hv hA hB
            rw [HV.out] at HC
            go_wp2_with fail
            refine HC.out.mono ?_
            rintro e w5 ⟨tv, rfl, h5, b5⟩
            obtain ⟨ta, tc, rfl⟩ := h5.len
            have c0 := ((B.out.trans (b5.mono B.out.size)).cell (p := ⟨b9, off9 + k2 * 2, none⟩) hb).trans c0
            have c1 := ((B.out.trans (b5.mono B.out.size)).cell (p := ⟨b9, off9 + k2 * 2 + 1, none⟩) hb).trans c1
            have hb5 : b9 < w5.heap.size := Nat.lt_of_lt_of_le hb (B.out.trans (b5.mono B.out.size)).size
            have HPS := Lib.hid (pair_same K2 (.slice ta T2.length tc) T2 K2 (.slice ta2 T2.length tc2) T2 h5 (HHL.out.below (B.out.trans (b5.mono B.out.size))))
            rw [sameC_self] at HPS
            replace B := Lib.hid (B.out.trans (b5.mono B.out.size))
            replace R := Lib.hid (R.out.below b5)
            clear b5
            clear h5 HC
            go_wp2_with fail
            refine HPS.out.mono ?_
            rintro e w6 ⟨rfl, b6⟩
            replace B := Lib.hid (B.out.trans (b6.mono B.out.size))
            replace R := Lib.hid (R.out.below b6)
            clear b6
            clear HPS
            go_wp2
            go_roundw
            case rel => exact ⟨k2 + 1, by omega, by go_num, R.out, B.out⟩
            case measure => simp [intOf] <;> omega
        · have hnl : ¬ (k2 < L.length) := hlt
          go_wp2
          go_ret
          exact ⟨(ret_eq (by first | rfl | (simp <;> omega))), B.out⟩
set_option maxRecDepth 100000 in
theorem walk {H : Type} {enc : TypeId × Value → H} (W : World) (u : Value) {base : Nat} {d : DataW H} {p : List MemPlace} (hv : Value.okWide Tryd.prog W .any base 22 u) (h : DataW.Trod enc Tryd.prog W 0 (fun _ => true) true 22 u d p) (c : Int) (_ : (Lit.int .i64 c).wf = true) (n : Int) (_ : (Lit.int .i64 n).wf = true) (_ : laidMetH Tryd.prog Rows.shiftBackRow.laid W) : Calls Tryd.prog 9 #[u, .int .i64 c, .int .i64 n] W (Yes W) := by
  obtain ⟨L, hL, _⟩ := cells_arg hv h
  exact walkH W u L _ hL c n

theorem door_met (os : Os) : laidMetH Tryd.prog Rows.shiftBackRow.laid ((World.doorLaid Tryd.prog 400 os).forCall (fun _ _ => 0) ⟨#[], #[.slice none 0 0, .int .i64 0, .int .i64 0], []⟩).memory :=
  laidMetH_of_parts3 (fuel := 8) (laidMet_of_run' 8 (by kernel_rfl) (by kernel_rfl)) (by kernel_rfl) (by kernel_rfl)

set_option maxRecDepth 100000 in
theorem lifted (os : Os) (started : os.Started) (H : Type) (enc : TypeId × Value → H) :
    ReturnsInHanded {} Tryd.checked os 9 .any (fun w args => (Rows.shiftBackSpec.pre enc Tryd.prog Tryd.f9 [] false w args ∧ laidMetH Tryd.prog Rows.shiftBackRow.laid w) ∧ sizedMet enc Tryd.prog Tryd.f9 (OpenSpec.ofChange Rows.shiftBackSpec) false w args)
      (Rows.shiftBackSpec.post enc Tryd.prog Tryd.f9 false true false false) := by
  refine law_frame (C := Tryd.checked) (tb := 4) (by kernel_rfl) started (by kernel_rfl) Tryd.func9 (by kernel_rfl) (by kernel_rfl) Tryd.underlying4 rfl
    (by rw [Tryd.params9]; intro t ht; simp at ht; rcases ht with rfl | rfl <;> exact ⟨by kernel_rfl, of_decide_eq_true (by kernel_rfl)⟩)
    (by rw [Tryd.params9]; intro ds hd; match ds, hd with | [_, _, _], _ => rfl)
    (ChangeSpec.witness_shaped (enc := enc) (C := Tryd.checked) (os := os) (X := fun w _ => laidMetH Tryd.prog Rows.shiftBackRow.laid w) false (World.doorLaid Tryd.prog 400 os) #[.slice none 0 0, .int .i64 0, .int .i64 0] 8 rfl (World.shaped_of_RefB (by kernel_rfl) (by kernel_rfl)) (by kernel_rfl) (by kernel_rfl) (by kernel_rfl) (door_met os)) ?_
  intro W base args ds before hval hA hsz hL
  rw [Tryd.params9] at hA hval
  obtain ⟨v0, vs0, d0, ds0, p0, q0, hargs, rfl, rfl, h0, r0⟩ := trodAll_cons hA
  obtain ⟨v1, vs1, d1, ds1, p1, q1, rfl, rfl, rfl, h1, r1⟩ := trodAll_cons r0
  obtain ⟨v2, vs2, d2, ds2, p2, q2, rfl, rfl, rfl, h2, r2⟩ := trodAll_cons r1
  obtain ⟨rfl, rfl, rfl⟩ := trodAll_nil r2
  obtain rfl : args = #[v0, v1, v2] := by cases args; simp_all
  obtain ⟨x1, rfl, rfl, rfl, wx1⟩ := open_int Tryd.underlying3 (hval 1 3 v1 rfl rfl) h1
  obtain ⟨x2, rfl, rfl, rfl, wx2⟩ := open_int Tryd.underlying3 (hval 2 3 v2 rfl rfl) h2
  exact walk W v0 (hval 0 22 v0 rfl rfl) h0 x1 wx1 x2 wx2 hL

theorem said : Rows.ShiftBackSaid :=
  OpenClaim.holds_of_wide 9 Tryd.f9 rfl rfl rfl rfl rfl rfl rfl ⟨rfl, rfl, rfl, rfl, rfl⟩ rfl rfl rfl rfl rfl (by kernel_rfl) Tryd.func9 (by kernel_rfl)
    (of_decide_eq_true (by kernel_rfl)) (by unfold Func.isWrapper; first | (rw [if_pos (by decide +kernel)]; kernel_rfl) | (rw [if_neg (by decide +kernel)]; exact ⟨rfl, rfl⟩))
    (fun os started H enc _ => lifted os started H enc)

theorem plain (f : FuncId) (fn : Func) (hf : Tryd.pinned.checked.prog.funcNamed "linotype/linotypelaw27.ShiftBack" = some f) (hfn : Tryd.pinned.checked.prog.funcs[f]? = some fn) :
    true = Tryd.pinned.checked.prog.looks [] ∧ ∀ (j : Nat) t, fn.params[j]? = some t → Tryd.pinned.checked.prog.wantsStandIn t = false := by
  obtain rfl : f = 9 := Option.some.inj ((show Tryd.prog.funcNamed "linotype/linotypelaw27.ShiftBack" = some 9 by kernel_rfl).symm.trans hf) |>.symm
  obtain rfl : fn = Tryd.f9 := (Option.some.inj (Tryd.func9.symm.trans hfn)).symm
  refine ⟨by kernel_rfl, fun j t ht => ?_⟩
  rw [Tryd.params9] at ht
  have hm : t ∈ [22, 3, 3] := by simpa using Array.mem_of_getElem? ht
  have hall : ([22, 3, 3].all fun u => !Tryd.prog.wantsStandIn u) = true := by kernel_rfl
  exact (show Tryd.prog.wantsStandIn t = false by simpa using List.all_eq_true.1 hall t hm)

/-- THE CARD. -/
theorem card : Rows.ShiftBackCardSaid :=
  Claim7.holds_tied_plain_at .later [] _ _ _ _ said (fun _ h => by cases h) (by kernel_rfl) (fun _ h => by cases h) shiftBack_row_tie rfl ⟨rfl, rfl⟩ (by kernel_rfl) rfl plain (by kernel_rfl)
#print axioms card

end Go.Proofs.YtomfclkldmmmgaaDoor.lawShiftBack
