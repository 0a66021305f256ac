/- ItemsMake (29.1 to 29.3) answers true at every list of items, and turns nothing. Conditions: api's eight errors and errors' errorType read as their initialisers lay them (tied to the program's text by the card). -/
import Derived.Test.YtmclmhdlnlcafaaDoorItmE
import Derived.Test.YtmclmhdlnlcafaaDoorCellU
import Derived.Test.YtmclmhdlnlcafaaDoorCellS
import Derived.Test.YtmclmhdlnlcafaaDoorErrS
import Derived.Test.YtmclmhdlnlcafaaDoorMg1
import Derived.Test.YtmclmhdlnlcafaaDoorCards
import Derived.Test.YtmclmhdlnlcafaaDoorTie
import Derived.ProofKit
namespace Go.Proofs.YtmclmhdlnlcafaaDoor.lawItemsMake
open Go.ChangeShapes Go.WideShapes Go.ChangeAt Go.RowKit
set_option maxRecDepth 100000 in
theorem items_arg {H : Type} {enc : TypeId × Value → H} {W : World} {base : Nat} {v : Value} {d : DataW H} {p : List MemPlace} (hv : Value.okWide Tryd.prog W .any base 41 v) (h : DataW.Trod enc Tryd.prog W 0 (fun _ => true) true 41 v d p) : ∃ L, HeldE cellE (fun _ => True) W v L := by
  obtain ⟨L, hL, _⟩ := opens_arg (E := cellE) Tryd.underlying41 (by kernel_rfl) (by decide) (opens_pair Tryd.underlying55 (by kernel_rfl) rfl rfl (opens_int Tryd.underlying3 (by kernel_rfl)) (opens_slice Tryd.underlying31 (by kernel_rfl) (by decide) (opens_int Tryd.underlying21 (by kernel_rfl)))) hv h
  exact ⟨L, hL.zone (fun _ _ _ => trivial)⟩
def BadAt (L : List Cl) (k : Nat) (b : Int) : Prop := (b = -1 ∧ ∀ j, j < k → rightI (L.getD j zc) = true) ∨ ∃ n : Nat, b = n ∧ n < k ∧ (∀ j, j < n → rightI (L.getD j zc) = true) ∧ rightI (L.getD n zc) = false
theorem bad_right {L : List Cl} {k : Nat} (h : BadAt L k (-1)) (hr : rightI (L.getD k zc) = true) : BadAt L (k + 1) (-1) := by
  rcases h with ⟨_, h⟩ | ⟨n, e, _⟩
  · refine .inl ⟨rfl, fun j hj => ?_⟩
    by_cases e : j = k
    · subst e; exact hr
    · exact h j (by omega)
  · omega
theorem bad_first {L : List Cl} {k : Nat} (h : BadAt L k (-1)) (hr : rightI (L.getD k zc) = false) : BadAt L (k + 1) k := by
  rcases h with ⟨_, h⟩ | ⟨n, e, _⟩
  · exact .inr ⟨k, rfl, by omega, h, hr⟩
  · omega
theorem bad_old {L : List Cl} {k : Nat} {b : Int} (h : BadAt L k b) (hb : 0 ≤ b) : BadAt L (k + 1) b := by
  rcases h with ⟨e, _⟩ | ⟨n, e, h1, h2⟩
  · omega
  · exact .inr ⟨n, e, by omega, h2⟩
theorem bad_num {L : List Cl} {k : Nat} {b : Int} (h : BadAt L k b) : b = -1 ∨ 0 ≤ b := by
  rcases h with ⟨e, _⟩ | ⟨n, e, _⟩ <;> omega
set_option maxRecDepth 100000 in
set_option maxHeartbeats 3000000 in
theorem walkH (W : World) (va : Value) (L : List Cl) (Z : Zone) (ha : HeldE cellE Z W va L) (sa : Nat → Addr) (hsa : F.Sents W sa) (hhd : F.Handle W) : Calls Tryd.prog 7 #[va] W (Yes W) := by
  have hla := ha.max
  have ha := ha.lower
  obtain ⟨ao, ca, rfl⟩ := ha.len
  have HA := Lib.hid ha
  have HSA := Lib.hid hsa
  have HHD := Lib.hid hhd
  clear ha hsa hhd
  by_cases h1 : 500 < L.length
  · go_enter Tryd.func7, Tryd.ntmps7
    go_wp2_with fail
    refine (works29_any _).mono ?_
    rintro e w1 ⟨rfl, b1⟩
    go_wp2_with fail
    refine (works29_any _).mono ?_
    rintro e w2 ⟨rfl, b2⟩
    have b2 := b1.trans (b2.mono b1.size)
    go_wp2
    go_ret
    exact ⟨(ret_eq (by first | rfl | (simp <;> omega))), b2⟩
  have hd60 : decide ((500 : Int) < L.length) = false := by simp; omega
  have HLL := Lib.hid (show L.length ≤ 500 by omega)
  clear h1
  go_enter Tryd.func7, Tryd.ntmps7
  go_wp2_with fail
  refine (works29_any _).mono ?_
  rintro e w1 ⟨rfl, b1⟩
  have B := Lib.hid b1
  clear b1
  have h2 := icols_any _ _ L w1 (HA.out.below B.out) (by have := HLL.out; omega)
  go_wp2_with fail
  refine h2.mono ?_
  rintro e w2 ⟨v2, rfl, ho2, b2⟩
  have hc2 := (ho2.held (Z := fun _ => True) (fun _ _ _ => trivial)).lower
  replace B := Lib.hid (B.out.trans (b2.mono B.out.size))
  clear b2
  clear ho2 h2 hd60
  obtain ⟨N, hN⟩ : ∃ N, N = L.length := ⟨_, rfl⟩
  have HNL := Lib.hid hN
  rw [← hN] at hc2 ⊢
  replace HA := Lib.hid (show HeldE cellE (fun b => b < W.heap.size) W (.slice ao N ca) L from by rw [hN]; exact HA.out)
  obtain ⟨co, cc, he2⟩ := hc2.len
  rw [cols_len] at he2
  subst he2
  have HC2 := Lib.hid (show ∀ i, i < N → ∃ b off, co = some ⟨b, off, none⟩ ∧ b < w2.heap.size ∧ w2.cell? ⟨b, off + i, none⟩ = some (.int .i64 (wideTo L i)) from fun i hi => by
    obtain ⟨b, off, e, hb, _, C, hC, hr⟩ := hc2.spots.2.2 i (by rw [cols_len]; exact hi)
    have := hC 0 (by decide)
    rw [show C = [.int .i64 ((colsL L N N).getD i 0)] from hr, cols_at L N N i hi, if_pos hi] at this
    refine ⟨b, off, e, hb, ?_⟩
    rw [show (intE .i64).size = 1 from rfl, Nat.mul_one, Nat.add_zero] at this
    exact this)
  have hc := (cells_at (HA.out.below B.out).lower).2.2
  have HC := Lib.hid hc
  have hne : ((N : Int) != (N : Int)) = false := by simp
  have hla : N ≤ 9223372036854775807 := by rw [hN]; exact hla
  have hn500 : N ≤ 500 := by rw [hN]; exact HLL.out
  rw [← hN] at HC
  clear hc hc2 hN
  go_wp2
  clear hne
  go_loopw [3, 4, 6] (fun bv av i wr => ∃ (k : Nat) (b s : Int), k ≤ N ∧ i = .int .i64 k ∧ bv = .int .i64 b ∧ av = .int .i64 s ∧ Go.RowKit.Hid (s = wideTo L k) ∧ Go.RowKit.Hid (BadAt L k b) ∧ Below w2.heap.size w2 wr) (fun _ _ i _ => N - (intOf i).toNat)
  case atStart => exact ⟨0, -1, 0, Nat.zero_le _, rfl, rfl, rfl, Lib.hid rfl, Lib.hid (.inl ⟨rfl, fun j hj => absurd hj (Nat.not_lt_zero _)⟩), Below.refl _ _⟩
  case round =>
    obtain ⟨k, b, s, hk, rfl, rfl, rfl, HSM, HBA, hbw⟩ := hrel
    have HBW := Lib.hid hbw
    clear hbw
    by_cases hlt : k < N
    · obtain ⟨bb, boff, tv, rfl, hb, _, c0, c1, hh⟩ := HC.out k hlt
      obtain ⟨cb, coff, rfl, hcb, d0⟩ := HC2.out k hlt
      have hs := wideTo_succ L k
      have hle := wideTo_le L k
      rw [← HSM.out] at hs hle d0
      obtain ⟨⟨K, T⟩, hKT⟩ : ∃ y, y = L.getD k zc := ⟨_, rfl⟩
      rw [← hKT] at c0 hh hs
      have HKT := Lib.hid hKT
      simp only at c0 hh
      have htl := hh.max
      have HT := Lib.hid hh
      obtain ⟨ta, tc, rfl⟩ := hh.len
      have HF := Lib.hid (show ∀ w9, Below w2.heap.size w2 w9 → w9.cell? ⟨bb, boff + k * 2, none⟩ = some (.int .i64 K) ∧ w9.cell? ⟨bb, boff + k * 2 + 1, none⟩ = some (.slice ta T.length tc) from fun w9 h => ⟨(h.cell (p := ⟨bb, boff + k * 2, none⟩) hb).trans c0, (h.cell (p := ⟨bb, boff + k * 2 + 1, none⟩) hb).trans c1⟩)
      have d0 := ext_cell ((HBW.out.cell (p := ⟨cb, coff + k, none⟩) hcb).trans d0)
      clear hKT hh hb c0 c1 hcb
      obtain ⟨wk, hwk⟩ : ∃ wk, wk = wr := ⟨_, rfl⟩
      subst hwk
      obtain ⟨c0, c1⟩ := HF.out wk HBW.out
      have c0 := ext_cell c0
      have c1 := ext_cell c1
      obtain ⟨R, hR⟩ : ∃ R, R = rightI (K, T) := ⟨_, rfl⟩
      have HQ1 := Lib.hid (fun u : Growth wk => iright_any K (.slice ta T.length tc) T (ext wk u) ((HT.out.below HBW.out).below u.ok).ints htl)
      have HQ2 := Lib.hid (fun u : Growth wk => riright_any K (.slice ta T.length tc) T (ext wk u) ((HT.out.below HBW.out).below u.ok).ints htl)
      rw [← hR] at HQ1 HQ2
      have HR := Lib.hid hR
      have hrr : (R != R) = false := by simp
      have hss : (s != s) = false := by simp
      have hhn : heldN (K, T) = if 1 < K then 2 else 1 := by unfold heldN; simp only; split <;> omega
      rw [hhn] at hs
      have HS := Lib.hid hs
      clear hR hs hhn
      go_wp2
      refine wp_region_ext (by kernel_rfl) (by kernel_rfl) ?_
      repeat (go_big_quiet_step (((first | (go_at_call 34; exact callx (HQ1.out _)) | (go_at_call 35; exact callx (HQ2.out _))))))
      refine wpQuiet_nil ?_
      intro _ hw'
      obtain ⟨u, hw''⟩ := hw'
      subst hw''
      obtain ⟨w5, hw5⟩ : ∃ w5, w5 = ext wk u := ⟨_, rfl⟩
      have HB5 := Lib.hid (show Below w2.heap.size w2 w5 by rw [hw5]; exact ext_below HBW.out u)
      rw [← hw5]
      clear hw5 c0 c1 d0 hrr hss HQ1 HQ2
      have hw1 : IntKind.i64.wrap (s + 1) = s + 1 := by rw [IntKind.wrap_i64]; omega
      have hw2 : IntKind.i64.wrap (s + 1 + 1) = s + 1 + 1 := by rw [IntKind.wrap_i64]; omega
      have hw3 : IntKind.i64.wrap (s + 2) = s + 2 := by rw [IntKind.wrap_i64]; omega
      rcases bad_num HBA.out with rfl | hb0
      · cases R with
        | true =>
          have HNB := Lib.hid (bad_right HBA.out (by rw [← HKT.out, ← HR.out]))
          have hq := riright_any K (.slice ta T.length tc) T w5 (HT.out.below HB5.out).ints htl
          rw [← HR.out] at hq
          obtain ⟨c0, c1⟩ := HF.out w5 HB5.out
          go_upto_if 58 with fail
          refine hq.mono ?_
          rintro e w6 ⟨rfl, b6⟩
          have HBZ := Lib.hid (HB5.out.trans (b6.mono HB5.out.size))
          clear b6 hq c0 c1
          obtain ⟨c0, c1⟩ := HF.out w6 HBZ.out
          by_cases hK : 1 < K
          · have hkd : decide ((1 : Int) < K) = true := by rw [decide_eq_true_eq]; exact hK
            have HSN := Lib.hid (show s + 1 + 1 = wideTo L (k + 1) by rw [HS.out, if_pos hK]; omega)
            go_wp2
            go_roundw
            case rel => exact ⟨k + 1, -1, s + 1 + 1, by omega, by go_num, rfl, by first | rfl | go_num, HSN, HNB, HBZ.out⟩
            case measure => simp [intOf] <;> omega
          · have hkd : decide ((1 : Int) < K) = false := by rw [decide_eq_false_iff_not]; exact hK
            have HSN := Lib.hid (show s + 1 = wideTo L (k + 1) by rw [HS.out, if_neg hK])
            go_wp2
            go_roundw
            case rel => exact ⟨k + 1, -1, s + 1, by omega, by go_num, rfl, by first | rfl | go_num, HSN, HNB, HBZ.out⟩
            case measure => simp [intOf] <;> omega
        | false =>
          have HNB := Lib.hid (bad_first HBA.out (by rw [← HKT.out, ← HR.out]))
          have hq := riright_any K (.slice ta T.length tc) T w5 (HT.out.below HB5.out).ints htl
          rw [← HR.out] at hq
          obtain ⟨c0, c1⟩ := HF.out w5 HB5.out
          go_upto_if 58 with fail
          refine hq.mono ?_
          rintro e w6 ⟨rfl, b6⟩
          have HBZ := Lib.hid (HB5.out.trans (b6.mono HB5.out.size))
          clear b6 hq c0 c1
          obtain ⟨c0, c1⟩ := HF.out w6 HBZ.out
          by_cases hK : 1 < K
          · have hkd : decide ((1 : Int) < K) = true := by rw [decide_eq_true_eq]; exact hK
            have HSN := Lib.hid (show s + 1 + 1 = wideTo L (k + 1) by rw [HS.out, if_pos hK]; omega)
            go_wp2
            go_roundw
            case rel => exact ⟨k + 1, k, s + 1 + 1, by omega, by go_num, rfl, by first | rfl | go_num, HSN, HNB, HBZ.out⟩
            case measure => simp [intOf] <;> omega
          · have hkd : decide ((1 : Int) < K) = false := by rw [decide_eq_false_iff_not]; exact hK
            have HSN := Lib.hid (show s + 1 = wideTo L (k + 1) by rw [HS.out, if_neg hK])
            go_wp2
            go_roundw
            case rel => exact ⟨k + 1, k, s + 1, by omega, by go_num, rfl, by first | rfl | go_num, HSN, HNB, HBZ.out⟩
            case measure => simp [intOf] <;> omega
      · have hbn : decide (b < 0) = false := by rw [decide_eq_false_iff_not]; omega
        have HOLD := Lib.hid (bad_old HBA.out hb0)
        have HBZ := HB5
        obtain ⟨c0, c1⟩ := HF.out w5 HBZ.out
        by_cases hK : 1 < K
        · have hkd : decide ((1 : Int) < K) = true := by rw [decide_eq_true_eq]; exact hK
          have HSN := Lib.hid (show s + 1 + 1 = wideTo L (k + 1) by rw [HS.out, if_pos hK]; omega)
          go_wp2
          go_roundw
          case rel => exact ⟨k + 1, b, s + 1 + 1, by omega, by go_num, rfl, by first | rfl | go_num, HSN, HOLD, HBZ.out⟩
          case measure => simp [intOf] <;> omega
        · have hkd : decide ((1 : Int) < K) = false := by rw [decide_eq_false_iff_not]; exact hK
          have HSN := Lib.hid (show s + 1 = wideTo L (k + 1) by rw [HS.out, if_neg hK])
          go_wp2
          go_roundw
          case rel => exact ⟨k + 1, b, s + 1, by omega, by go_num, rfl, by first | rfl | go_num, HSN, HOLD, HBZ.out⟩
          case measure => simp [intOf] <;> omega
    · obtain rfl : k = N := by omega
      replace B := Lib.hid (B.out.trans (HBW.out.mono B.out.size))
      have hss : (s != s) = false := by simp
      rcases HBA.out with ⟨rfl, hall⟩ | ⟨n, rfl, hn, hok, hbad⟩
      · have HAL := Lib.hid (show ∀ j, j < L.length → rightI (L.getD j zc) = true from fun j hj => hall j (by rw [HNL.out]; exact hj))
        obtain ⟨s1, s2, s3⟩ := strip_all L HAL.out L.length (Nat.le_refl _)
        rw [List.take_length] at s1 s2 s3
        rw [← HNL.out, ← HSM.out] at s3
        have HS1 := Lib.hid s1
        have HS2 := Lib.hid s2
        have HSL := Lib.hid (show (stripL L).length ≤ 1000 by have := strip_len L L.length (Nat.le_refl _); rw [List.take_length] at this; have := HLL.out; omega)
        have h3 := icells_ok _ _ L wr (HA.out.below B.out) (by have := HLL.out; omega) HAL.out
        obtain ⟨M, hM⟩ : ∃ M, M = stripL L := ⟨_, rfl⟩
        rw [← hM] at h3 HS1 HS2 HSL s3
        have hml : ((M.length : Int) == s) = true := by rw [beq_iff_eq]; exact s3
        clear hall s1 s2 s3 hM
        go_wp2_with fail
        refine h3.mono ?_
        rintro e w3 ⟨v3, rfl, ho3, b3⟩
        have HM := Lib.hid (ho3.held (fun _ h _ => h))
        replace B := Lib.hid (B.out.trans (b3.mono B.out.size))
        clear b3
        obtain ⟨a3, c3, rfl⟩ := HM.out.len
        clear ho3 h3
        have h4 := iwide_any _ _ L w3 (HA.out.below B.out) (by have := HLL.out; omega)
        rw [← HNL.out, ← HSM.out] at h4
        go_wp2_with fail
        refine h4.mono ?_
        rintro e w4 ⟨rfl, b4⟩
        replace B := Lib.hid (B.out.trans (b4.mono B.out.size))
        replace HM := Lib.hid (HM.out.below b4)
        clear b4
        clear h4
        have h5 := rsound_any _ _ _ _ HM.out
        rw [← sound_iff, HS1.out] at h5
        go_wp2_with fail
        refine h5.mono ?_
        rintro e w5 ⟨rfl, b5⟩
        replace B := Lib.hid (B.out.trans (b5.mono B.out.size))
        replace HM := Lib.hid (HM.out.below b5)
        clear b5
        clear h5
        have h6 := rof29_any (fun _ => True) _ M w5 (fun _ _ => trivial) (HM.out.zone (fun _ _ _ => trivial)) (by have := HSL.out; omega)
        rw [HS2.out] at h6
        go_wp2_with fail
        refine h6.mono ?_
        rintro e w6 ⟨v6, rfl, ho6, b6⟩
        have HX := Lib.hid (ho6.held (fun _ _ _ => trivial))
        replace B := Lib.hid (B.out.trans (b6.mono B.out.size))
        clear b6
        clear ho6 h6
        have h7 := risame_any _ _ _ _ _ _ w6 HX.out (HA.out.below B.out)
        rw [sameC_self] at h7
        go_wp2_with fail
        refine h7.mono ?_
        rintro e w7 ⟨rfl, b7⟩
        replace B := Lib.hid (B.out.trans (b7.mono B.out.size))
        clear b7
        go_wp2
        go_ret
        exact ⟨(ret_eq (by first | rfl | (simp <;> omega))), B.out⟩
      · have h3 := icells_bad sa _ _ L wr (HSA.out.below B.out) (HA.out.below B.out) (by have := HLL.out; omega) n (by rw [← HNL.out]; exact hn) hok hbad
        clear hok hbad
        have hnn : ((n : Int) == (n : Int)) = true := by simp
        go_wp2_with fail
        refine h3.mono ?_
        rintro e w3 ⟨u9, rfl, he3, b3⟩
        have HE := Lib.hid he3
        replace B := Lib.hid (B.out.trans (b3.mono B.out.size))
        clear b3
        clear h3 he3
        have h4 := iwide_any _ _ L w3 (HA.out.below B.out) (by have := HLL.out; omega)
        rw [← HNL.out, ← HSM.out] at h4
        go_wp2_with fail
        refine h4.mono ?_
        rintro e w4 ⟨rfl, b4⟩
        replace HE := Lib.hid (HE.out.keep b4)
        replace B := Lib.hid (B.out.trans (b4.mono B.out.size))
        clear b4
        clear h4
        have h5 := F.code_any sa w4 (HSA.out.below B.out) u9 _ 5 (.inr HE.out)
        go_wp2_with fail
        refine h5.mono ?_
        rintro e w5 ⟨rfl, rfl⟩
        have h6 := F.at_any sa w4 (HHD.out.keep B.out) u9 _ 5 (.inr HE.out)
        clear h5
        go_wp2_with fail
        refine h6.mono ?_
        rintro e w6 ⟨rfl, b6⟩
        replace B := Lib.hid (B.out.trans (b6.mono B.out.size))
        clear b6
        go_wp2
        go_ret
        exact ⟨(ret_eq (by first | rfl | (simp <;> omega))), B.out⟩
set_option maxRecDepth 100000 in
theorem walk {H : Type} {enc : TypeId × Value → H} (W : World) (u : Value) {base : Nat} {d : DataW H} {p : List MemPlace} (hv : Value.okWide Tryd.prog W .any base 41 u) (h : DataW.Trod enc Tryd.prog W 0 (fun _ => true) true 41 u d p) (hL : laidMetH Tryd.prog Rows.itemsMakeRow.laid W) : Calls Tryd.prog 7 #[u] W (Yes W) := by
  obtain ⟨L, hL2⟩ := items_arg hv h
  obtain ⟨hhd, sa, hsa⟩ := F.errs_of_laid hL
  exact walkH W u L _ hL2 sa hsa hhd

theorem door_met (os : Os) : laidMetH Tryd.prog Rows.itemsMakeRow.laid ((World.doorLaid Tryd.prog 400 os).forCall (fun _ _ => 0) ⟨#[], #[.slice none 0 0], []⟩).memory :=
  laidMetH_of_parts3 (fuel := 8) (laidMet_of_run' 8 (by kernel_rfl) (by kernel_rfl)) (by kernel_rfl) (by kernel_rfl)

set_option maxRecDepth 100000 in
theorem lifted (os : Os) (started : os.Started) (H : Type) (enc : TypeId × Value → H) :
    ReturnsInHanded {} Tryd.checked os 7 .any (fun w args => (Rows.itemsMakeSpec.pre enc Tryd.prog Tryd.f7 [] false w args ∧ laidMetH Tryd.prog Rows.itemsMakeRow.laid w) ∧ sizedMet enc Tryd.prog Tryd.f7 (OpenSpec.ofChange Rows.itemsMakeSpec) false w args)
      (Rows.itemsMakeSpec.post enc Tryd.prog Tryd.f7 false true false false) := by
  refine law_frame (C := Tryd.checked) (tb := 4) (by kernel_rfl) started (by kernel_rfl) Tryd.func7 (by kernel_rfl) (by kernel_rfl) Tryd.underlying4 rfl
    (by rw [Tryd.params7]; intro t ht; simp at ht; subst ht <;> exact ⟨by kernel_rfl, of_decide_eq_true (by kernel_rfl)⟩)
    (by rw [Tryd.params7]; intro ds hd; match ds, hd with | [_], _ => rfl)
    (ChangeSpec.witness_shaped (enc := enc) (C := Tryd.checked) (os := os) (X := fun w _ => laidMetH Tryd.prog Rows.itemsMakeRow.laid w) false (World.doorLaid Tryd.prog 400 os) #[.slice none 0 0] 8 rfl (World.shaped_of_RefB (by kernel_rfl) (by kernel_rfl)) (by kernel_rfl) (by kernel_rfl) (by kernel_rfl) (door_met os)) ?_
  intro W base args ds before hval hA hsz hL
  rw [Tryd.params7] at hA hval
  obtain ⟨v0, vs0, d0, ds0, p0, q0, hargs, rfl, rfl, h0, r0⟩ := trodAll_cons hA
  obtain ⟨rfl, rfl, rfl⟩ := trodAll_nil r0
  obtain rfl : args = #[v0] := by cases args; simp_all

  exact walk W v0 (hval 0 41 v0 rfl rfl) h0 hL

theorem said : Rows.ItemsMakeSaid :=
  OpenClaim.holds_of_wide 7 Tryd.f7 rfl rfl rfl rfl rfl rfl rfl ⟨rfl, rfl, rfl, rfl, rfl⟩ rfl rfl rfl rfl rfl (by kernel_rfl) Tryd.func7 (by kernel_rfl)
    (of_decide_eq_true (by kernel_rfl)) (by unfold Func.isWrapper; first | (rw [if_pos (by decide +kernel)]; kernel_rfl) | (rw [if_neg (by decide +kernel)]; exact ⟨rfl, rfl⟩))
    (fun os started H enc _ => lifted os started H enc)

theorem plain (f : FuncId) (fn : Func) (hf : Tryd.pinned.checked.prog.funcNamed "linotype/linotypelaw29.ItemsMake" = some f) (hfn : Tryd.pinned.checked.prog.funcs[f]? = some fn) :
    true = Tryd.pinned.checked.prog.looks [] ∧ ∀ (j : Nat) t, fn.params[j]? = some t → Tryd.pinned.checked.prog.wantsStandIn t = false := by
  obtain rfl : f = 7 := Option.some.inj ((show Tryd.prog.funcNamed "linotype/linotypelaw29.ItemsMake" = some 7 by kernel_rfl).symm.trans hf) |>.symm
  obtain rfl : fn = Tryd.f7 := (Option.some.inj (Tryd.func7.symm.trans hfn)).symm
  refine ⟨by kernel_rfl, fun j t ht => ?_⟩
  rw [Tryd.params7] at ht
  have hm : t ∈ [41] := by simpa using Array.mem_of_getElem? ht
  have hall : ([41].all fun u => !Tryd.prog.wantsStandIn u) = true := by kernel_rfl
  exact (show Tryd.prog.wantsStandIn t = false by simpa using List.all_eq_true.1 hall t hm)

/-- THE CARD. -/
theorem card : Rows.ItemsMakeCardSaid :=
  Claim7.holds_tied_plain_at .later [] _ _ _ _ said (fun _ h => by cases h) (by kernel_rfl) (fun _ h => by cases h) itemsMake_row_tie rfl ⟨rfl, rfl⟩ (by kernel_rfl) rfl plain (by kernel_rfl)
#print axioms card

end Go.Proofs.YtmclmhdlnlcafaaDoor.lawItemsMake
