/- items: Right, held, Wide, Of; the reference's Right. -/
import Derived.Test.YtmclmhdlnlcafaaDoorItmM
import Derived.Test.YtmclmhdlnlcafaaDoorCellC
import Derived.Test.YtmclmhdlnlcafaaDoorCellR
import Derived.Test.YtmclmhdlnlcafaaDoorMg1
import Derived.Test.YtmclmhdlnlcafaaDoorMg2
import Derived.Test.YtmclmhdlnlcafaaDoorRowC
import Derived.Test.YtmclmhdlnlcafaaDoorErrS
import Derived.Lib.MinMax
import Derived.Deep.Cut
namespace Go.Proofs.YtmclmhdlnlcafaaDoor
open Go.RowKit Go.ChangeShapes Go.WideShapes
set_option maxRecDepth 100000 in
set_option maxHeartbeats 1600000 in
theorem iright_any (k : Int) (tv : Value) (t : List Int) (w : World) (ht : Held .i32 w tv t) (hl : t.length ≤ 9223372036854775807) : Calls Tryd.prog 34 #[.agg #[.int .i64 k, tv]] w (Gives w (.bool (rightI (k, t)))) := by
  obtain ⟨ao, cap, rfl⟩ := ht.len
  obtain ⟨W1, hW1⟩ : ∃ W1, W1 = w.alloc (.cells #[.int .i64 k, .slice ao t.length cap] 55) := ⟨_, rfl⟩
  have b1 : Below w.heap.size w W1 := by rw [hW1]; exact (Below.refl _ _).alloc (Nat.le_refl _) _
  have HR := Lib.hid (right_any 1 _ t W1 (ht.below b1) hl)
  have HB := Lib.hid b1
  clear b1 ht
  subst hW1
  by_cases h0 : t.length = 0
  · have hz : ((t.length : Int) == 0) = true := by rw [beq_iff_eq]; omega
    have HE := Lib.hid (show rightI (k, t) = (k == 1) by unfold rightI; rw [if_pos h0])
    clear h0
    go_enter Tryd.func34, Tryd.ntmps34
    go_wp2
    go_ret
    exact ⟨ret_eq (by rw [HE.out]; try rfl), HB.out⟩
  · have hz : ((t.length : Int) == 0) = false := by rw [beq_eq_false_iff_ne]; omega
    have HE := Lib.hid (show rightI (k, t) = ((k == 1 || k == 2) && rightB (1, t)) by unfold rightI; rw [if_neg h0])
    clear h0
    by_cases h1 : k = 1
    · have hk1 : (k == 1) = true := by rw [beq_iff_eq]; exact h1
      rw [hk1, Bool.true_or, Bool.true_and] at HE
      clear h1
      go_enter Tryd.func34, Tryd.ntmps34
      go_wp2_with fail
      refine HR.out.mono ?_
      rintro e w2 ⟨rfl, b2⟩
      have HB2 := Lib.hid (HB.out.trans (b2.mono HB.out.size))
      clear b2
      go_wp2
      go_ret
      exact ⟨ret_eq (by rw [HE.out]; try rfl), HB2.out⟩
    have hk1 : (k == 1) = false := by rw [beq_eq_false_iff_ne]; exact h1
    by_cases h2 : k = 2
    · have hk2 : (k == 2) = true := by rw [beq_iff_eq]; exact h2
      rw [hk1, hk2, Bool.false_or, Bool.true_and] at HE
      clear h1 h2
      go_enter Tryd.func34, Tryd.ntmps34
      go_wp2_with fail
      refine HR.out.mono ?_
      rintro e w2 ⟨rfl, b2⟩
      have HB2 := Lib.hid (HB.out.trans (b2.mono HB.out.size))
      clear b2
      go_wp2
      go_ret
      exact ⟨ret_eq (by rw [HE.out]; try rfl), HB2.out⟩
    have hk2 : (k == 2) = false := by rw [beq_eq_false_iff_ne]; exact h2
    rw [hk1, hk2, Bool.false_or, Bool.false_and] at HE
    clear h1 h2
    go_enter Tryd.func34, Tryd.ntmps34
    go_wp2
    go_ret
    exact ⟨ret_eq (by rw [HE.out]; try rfl), HB.out⟩
set_option maxRecDepth 100000 in
set_option maxHeartbeats 1600000 in
theorem riright_any (k : Int) (tv : Value) (t : List Int) (w : World) (ht : Held .i32 w tv t) (hl : t.length ≤ 9223372036854775807) : Calls Tryd.prog 35 #[.agg #[.int .i64 k, tv]] w (Gives w (.bool (rightI (k, t)))) := by
  obtain ⟨ao, cap, rfl⟩ := ht.len
  obtain ⟨W1, hW1⟩ : ∃ W1, W1 = w.alloc (.cells #[.int .i64 k, .slice ao t.length cap] 55) := ⟨_, rfl⟩
  have b1 : Below w.heap.size w W1 := by rw [hW1]; exact (Below.refl _ _).alloc (Nat.le_refl _) _
  have HR := Lib.hid (rright_any 1 _ t W1 (ht.below b1) hl)
  have HB := Lib.hid b1
  clear b1 ht
  subst hW1
  by_cases h0 : t.length = 0
  · have hz : ((t.length : Int) == 0) = true := by rw [beq_iff_eq]; omega
    have HE := Lib.hid (show rightI (k, t) = (k == 1) by unfold rightI; rw [if_pos h0])
    clear h0
    go_enter Tryd.func35, Tryd.ntmps35
    go_wp2
    go_ret
    exact ⟨ret_eq (by rw [HE.out]; try rfl), HB.out⟩
  · have hz : ((t.length : Int) == 0) = false := by rw [beq_eq_false_iff_ne]; omega
    have HE := Lib.hid (show rightI (k, t) = ((k == 1 || k == 2) && rightB (1, t)) by unfold rightI; rw [if_neg h0])
    clear h0
    by_cases h1 : k = 1
    · have hk1 : (k == 1) = true := by rw [beq_iff_eq]; exact h1
      rw [hk1, Bool.true_or, Bool.true_and] at HE
      clear h1
      go_enter Tryd.func35, Tryd.ntmps35
      go_wp2_with fail
      refine HR.out.mono ?_
      rintro e w2 ⟨rfl, b2⟩
      have HB2 := Lib.hid (HB.out.trans (b2.mono HB.out.size))
      clear b2
      go_wp2
      go_ret
      exact ⟨ret_eq (by rw [HE.out]; try rfl), HB2.out⟩
    have hk1 : (k == 1) = false := by rw [beq_eq_false_iff_ne]; exact h1
    by_cases h2 : k = 2
    · have hk2 : (k == 2) = true := by rw [beq_iff_eq]; exact h2
      rw [hk1, hk2, Bool.false_or, Bool.true_and] at HE
      clear h1 h2
      go_enter Tryd.func35, Tryd.ntmps35
      go_wp2_with fail
      refine HR.out.mono ?_
      rintro e w2 ⟨rfl, b2⟩
      have HB2 := Lib.hid (HB.out.trans (b2.mono HB.out.size))
      clear b2
      go_wp2
      go_ret
      exact ⟨ret_eq (by rw [HE.out]; try rfl), HB2.out⟩
    have hk2 : (k == 2) = false := by rw [beq_eq_false_iff_ne]; exact h2
    rw [hk1, hk2, Bool.false_or, Bool.false_and] at HE
    clear h1 h2
    go_enter Tryd.func35, Tryd.ntmps35
    go_wp2
    go_ret
    exact ⟨ret_eq (by rw [HE.out]; try rfl), HB.out⟩
set_option maxRecDepth 100000 in
theorem iheld_any (k : Int) (tv : Value) (w : World) (ht : ∃ a n c, tv = .slice a n c) : Calls Tryd.prog 66 #[.agg #[.int .i64 k, tv]] w (Gives w (.int .i64 (heldN (k, [])))) := by
  obtain ⟨a, n, c, rfl⟩ := ht
  have HB := Lib.hid ((Below.refl w.heap.size w).alloc (Nat.le_refl _) (.cells #[.int .i64 k, .slice a n c] 55))
  have HE := Lib.hid (show heldN (k, []) = min (max k 1) 2 from rfl)
  go_enter Tryd.func66, Tryd.ntmps66
  go_wp2
  go_ret
  exact ⟨ret_eq (by rw [HE.out]; try rfl), HB.out⟩
set_option maxRecDepth 100000 in
set_option maxHeartbeats 1600000 in
theorem iwide_any (Z : Zone) (v : Value) (L : List Cl) (w : World) (hv : HeldE cellE Z w v L) (hl : L.length ≤ 1000000) : Calls Tryd.prog 30 #[v] w (Gives w (.int .i64 (wideTo L L.length))) := by
  obtain ⟨ao, cap, rfl⟩ := hv.len
  obtain ⟨_, _, hc⟩ := cells_at hv
  have HC := Lib.hid hc
  clear hc hv
  go_enter Tryd.func30, Tryd.ntmps30
  go_wp2
  go_loopw [3, 8] (fun sv i wr => ∃ (k : Nat) (s : Int), k ≤ L.length ∧ i = .int .i64 k ∧ sv = .int .i64 s ∧ Go.RowKit.Hid (s = wideTo L k) ∧ Below w.heap.size w wr) (fun _ i _ => L.length - (intOf i).toNat)
  case atStart => exact ⟨0, 0, Nat.zero_le _, rfl, rfl, Lib.hid rfl, Below.refl _ _⟩
  case round =>
    obtain ⟨k, s, hk, rfl, rfl, HSM, hbw⟩ := hrel
    have HBW := Lib.hid hbw
    clear hbw
    by_cases hlt : k < L.length
    · obtain ⟨b, off, tv, rfl, hb, _, c0, c1, hh⟩ := HC.out k hlt
      have c0 := (HBW.out.cell (p := ⟨b, off + k * 2, none⟩) hb).trans c0
      have c1 := (HBW.out.cell (p := ⟨b, off + k * 2 + 1, none⟩) hb).trans c1
      have hs := wideTo_succ L k
      have hle := wideTo_le L k
      rw [← HSM.out] at hs hle
      have hon := held_one (L.getD k zc)
      have hhd : heldN (L.getD k zc) = heldN ((L.getD k zc).1, []) := rfl
      rw [hhd] at hs hon
      obtain ⟨K, hK⟩ : ∃ K, K = (L.getD k zc).1 := ⟨_, rfl⟩
      rw [← hK] at c0 hs hon
      obtain ⟨tz9, tc, rfl⟩ := hh.len
      obtain ⟨n, hn⟩ : ∃ n, n = (L.getD k zc).2.length := ⟨_, rfl⟩
      rw [← hn] at c1
      obtain ⟨W1, hW1⟩ : ∃ W1, W1 = wr.alloc (.cells #[.int .i64 K, .slice tz9 n tc] 55) := ⟨_, rfl⟩
      have hb1 : Below wr.heap.size wr W1 := by rw [hW1]; exact (Below.refl _ _).alloc (Nat.le_refl _) _
      have HB1 := Lib.hid (HBW.out.trans (hb1.mono HBW.out.size))
      have HQ := Lib.hid (iheld_any K (.slice tz9 n tc) W1 ⟨_, _, _, rfl⟩)
      obtain ⟨H, hH⟩ : ∃ H, H = heldN (K, []) := ⟨_, rfl⟩
      rw [← hH] at HQ hs hon
      have HS := Lib.hid (show s + H = wideTo L (k + 1) from hs.symm)
      have hw : IntKind.i64.wrap (s + H) = s + H := by rw [IntKind.wrap_i64]; omega
      subst hW1
      clear hH hK hn hh hb1 hs hb hhd
      go_wp2_with fail
      refine HQ.out.mono ?_
      rintro e w2 ⟨rfl, b2⟩
      have HB2 := Lib.hid (HB1.out.trans (b2.mono HB1.out.size))
      clear b2 HQ
      go_wp2
      go_roundw
      case rel => exact ⟨k + 1, s + H, by omega, by go_num, by go_num, HS, HB2.out⟩
      case measure => simp [intOf] <;> omega
    · obtain rfl : k = L.length := by omega
      go_wp2
      go_ret
      exact ⟨ret_eq (by rw [← HSM.out]; try rfl), HBW.out⟩
set_option maxRecDepth 100000 in
theorem iof_bad (sa : Nat → Addr) (Z : Zone) (v : Value) (L : List Cl) (w : World) (hs : Sents w sa) (hv : HeldE cellE Z w v L) (hbad : soundB L = false) : Calls Tryd.prog 26 #[v] w (Gives w (.tuple #[.slice none 0 0, .iface 154 (.pointer (some (sa 4)))])) := by
  have HS := Lib.hid hs
  have HSD := Lib.hid (sound_any _ _ _ _ hv)
  rw [hbad] at HSD
  obtain ⟨ao, pc, rfl⟩ := hv.len
  clear hs hv hbad
  go_enter Tryd.func26, Tryd.ntmps26
  go_wp2_with fail
  refine HSD.out.mono ?_
  rintro e w2 ⟨rfl, b2⟩
  have c4 := (HS.out.below b2).cell 4 (by decide)
  simp only [glob] at c4
  go_wp2
  go_quiet (fail)
  go_wp2
  go_ret2
  exact ⟨rfl, b2.drewN _⟩
def ItemsMade (w : World) (M : List Cl) (e : Ending) (w' : World) : Prop := ∃ v', e = .returned (.tuple #[v', .nilIface]) ∧ OwnE cellE (fun b => w.heap.size ≤ b) w' w.heap.size 55 v' M ∧ Below w.heap.size w w'
set_option maxRecDepth 100000 in
set_option maxHeartbeats 3000000 in
theorem iof_ok (Z : Zone) (v : Value) (L : List Cl) (w : World) (hv : HeldE cellE Z w v L) (hl : L.length ≤ 1000000) (hs : soundB L = true) : Calls Tryd.prog 26 #[v] w (ItemsMade w (itemsL L)) := by
  have HSD := Lib.hid (sound_any _ _ _ _ hv)
  rw [hs] at HSD
  have HRT := Lib.hid (sound_right hs)
  have hv := hv.lower
  obtain ⟨ao, cap, rfl⟩ := hv.len
  obtain ⟨_, _, hc⟩ := cells_at hv
  have HC := Lib.hid hc
  clear hc hv hs
  go_enter Tryd.func26, Tryd.ntmps26
  go_wp2_with fail
  refine HSD.out.mono ?_
  rintro e w1 ⟨rfl, b1⟩
  have HB := Lib.hid b1
  clear b1 HSD
  go_wp2
  go_loopw [4, 13] (fun t i wr => ∃ k : Nat, k ≤ L.length ∧ i = .int .i64 k ∧ OwnE cellE (fun b => w1.heap.size ≤ b) wr w1.heap.size 55 t (itemsL (L.take k)) ∧ Below w1.heap.size w1 wr) (fun _ i _ => L.length - (intOf i).toNat)
  case atStart => exact ⟨0, Nat.zero_le _, rfl, OwnE.nil _ _ _ _ _, Below.refl _ _⟩
  case round =>
    obtain ⟨k, hk, rfl, hown, hbw⟩ := hrel
    have HBW := Lib.hid hbw
    have HBX := Lib.hid (HB.out.trans (hbw.mono HB.out.size))
    clear hbw
    by_cases hlt : k < L.length
    · obtain ⟨b, off, tv, rfl, hb, _, c0, c1, hh⟩ := HC.out k hlt
      have c0 := (HBX.out.cell (p := ⟨b, off + k * 2, none⟩) hb).trans c0
      have c1 := (HBX.out.cell (p := ⟨b, off + k * 2 + 1, none⟩) hb).trans c1
      have hs := items_succ L k hlt
      have hrt := HRT.out k hlt
      have hlen : (itemsL (L.take k)).length ≤ 1000000 := by have := items_len (L.take k); rw [List.length_take] at this; omega
      obtain ⟨⟨K, T⟩, hKT⟩ : ∃ y, y = L.getD k zc := ⟨_, rfl⟩
      rw [← hKT] at c0 hh hs hrt
      have htl := right_short hrt
      have hkk := right_kinds hrt
      simp only at c0 hh htl hkk
      obtain ⟨tz9, tc, rfl⟩ := hh.len
      obtain ⟨P0, hP⟩ : ∃ P0, P0 = itemsL (L.take k) := ⟨_, rfl⟩
      rw [← hP] at hown hs hlen
      obtain ⟨W1, hW1⟩ : ∃ W1, W1 = wr.alloc (.cells #[.int .i64 K, .slice tz9 T.length tc] 40) := ⟨_, rfl⟩
      have hb1 : Below wr.heap.size wr W1 := by rw [hW1]; exact (Below.refl _ _).alloc (Nat.le_refl _) _
      have HH := Lib.hid (show Has W1 wr.heap.size [.int .i64 K, .slice tz9 T.length tc] 40 by rw [hW1]; exact Has.new wr _ _)
      have HLO := Lib.hid hown.lt
      have HO := Lib.hid (hown.below hb1)
      have HB1 := Lib.hid (HBW.out.trans (hb1.mono HBW.out.size))
      have HSR := Lib.hid (show w1.heap.size ≤ wr.heap.size ∧ wr.heap.size < W1.heap.size from ⟨HBW.out.size, HH.out.lt⟩)
      have HT := Lib.hid (hh.below (HBX.out.trans (hb1.mono HBX.out.size)))
      have HS := Lib.hid hs
      obtain ⟨t, htt⟩ : ∃ t, t = u4 := ⟨_, rfl⟩
      rw [← htt] at HO HLO ⊢
      clear hKT hP hh hb1 hown htt hs hb hrt
      rcases hkk with ⟨hk03, hT0⟩ | ⟨hk12, _, _, _⟩
      · have HT0 := Lib.hid hT0
        clear hT0
        rcases hk03 with rfl | rfl
        · have HS2 := Lib.hid (show itemsL (L.take (k + 1)) = P0 ++ [(1, [])] by rw [HS.out, HT0.out]; rfl)
          clear HS
          go_upto_if 19 with (fail)
          rw [← hW1]
          clear hW1 c0 c1
          have HX := Lib.hid (show HeldE cellE (fun b => w1.heap.size ≤ b ∧ t.ownBlock ≠ some b) (W1.alloc (.cells [Value.int .i64 1, .slice none 0 0].toArray 55)) (.slice (some ⟨W1.heap.size, 0, none⟩) 1 1) [(1, [])] from heldE_one (Y := fun _ => False) [.int .i64 1, .slice none 0 0] (1, []) (cell_rep.2 ⟨_, rfl, HeldE.nil _ _ _⟩) (fun _ _ h => h.elim) ⟨by have := HSR.out; omega, fun e => by have := (HLO.out _ e).2; have := HSR.out; omega⟩)
          have HO2 := Lib.hid (HO.out.below ((Below.refl W1.heap.size W1).alloc (Nat.le_refl _) (.cells [Value.int .i64 1, .slice none 0 0].toArray 55)))
          have HB2 := Lib.hid (HB1.out.alloc HB1.out.size (.cells [Value.int .i64 1, .slice none 0 0].toArray 55))
          clear HO
          go_wp2_with (at_builtin; refine wpList_append_e (E := cellE) (Z := fun b => w1.heap.size ≤ b) rfl (.tmp 21) (.tmp 23) 41 rfl (.agg #[.int .i64 0, .slice none 0 0]) 32 Tryd.underlying41 info_item rfl (by decide) rfl rfl HO2.out HX.out (by simp; omega) (by simp; omega) HB2.out.size ?_)
          intro v2 w2 ho2 hb2 _ _
          rw [← HS2.out] at ho2
          have H2 := Lib.hid ho2
          have H3 := Lib.hid (HB2.out.trans hb2)
          clear ho2 hb2
          go_wp2
          go_roundw
          case rel => exact ⟨k + 1, by omega, by go_num, H2.out, H3.out⟩
          case measure => simp [intOf] <;> omega
        · have HS2 := Lib.hid (show itemsL (L.take (k + 1)) = P0 by rw [HS.out, HT0.out]; exact List.append_nil _)
          clear HS
          go_upto_if 19 with (fail)
          rw [← hW1]
          clear hW1 c0 c1
          have HOO := Lib.hid (show OwnE cellE (fun b => w1.heap.size ≤ b) W1 w1.heap.size 55 t (itemsL (L.take (k + 1))) by rw [HS2.out]; exact HO.out)
          clear HO HS2
          go_wp2
          go_roundw
          case rel => exact ⟨k + 1, by omega, by go_num, HOO.out, HB1.out⟩
          case measure => simp [intOf] <;> omega
      rcases hk12 with rfl | rfl
      · have HS2 := Lib.hid (show itemsL (L.take (k + 1)) = P0 ++ [(1, T)] from HS.out)
        clear HS
        go_upto_if 25 with (fail)
        rw [← hW1]
        clear hW1 c0 c1
        have a1 := HH.out.cell 1 _ rfl
        have HCL := Lib.hid (rclone_any _ T W1 HT.out.ints (by omega))
        go_wp2_with fail
        refine HCL.out.mono ?_
        rintro e w2 ⟨v2, rfl, ho2, b2⟩
        have hh2 := (HeldE.ownedInts ho2).zone (Y := fun b => W1.heap.size ≤ b ∧ b < w2.heap.size) (fun b hb hz => ⟨hz, hb⟩)
        obtain ⟨a2, c2, rfl⟩ := hh2.len
        have HX := Lib.hid (show HeldE cellE (fun b => w1.heap.size ≤ b ∧ t.ownBlock ≠ some b) (w2.alloc (.cells [Value.int .i64 1, .slice a2 T.length c2].toArray 55)) (.slice (some ⟨w2.heap.size, 0, none⟩) 1 1) [(1, T)] from heldE_one (Y := fun b => W1.heap.size ≤ b ∧ b < w2.heap.size) [.int .i64 1, .slice a2 T.length c2] (1, T) (cell_rep.2 ⟨_, rfl, hh2⟩) (fun b _ h => ⟨by have := HSR.out; omega, fun e => by have := (HLO.out _ e).2; have := HSR.out; omega⟩) ⟨by have := HSR.out; have := b2.size; omega, fun e => by have := (HLO.out _ e).2; have := HSR.out; have := b2.size; omega⟩)
        have HO2 := Lib.hid ((HO.out.below b2).below ((Below.refl w2.heap.size w2).alloc (Nat.le_refl _) (.cells [Value.int .i64 1, .slice a2 T.length c2].toArray 55)))
        have HBB := Lib.hid (HB1.out.trans (b2.mono HB1.out.size))
        have HB2 := Lib.hid (HBB.out.alloc HBB.out.size (.cells [Value.int .i64 1, .slice a2 T.length c2].toArray 55))
        clear HO a1 ho2 b2 hh2 HCL
        go_wp2_with (at_builtin; refine wpList_append_e (E := cellE) (Z := fun b => w1.heap.size ≤ b) rfl (.tmp 27) (.tmp 32) 41 rfl (.agg #[.int .i64 0, .slice none 0 0]) 32 Tryd.underlying41 info_item rfl (by decide) rfl rfl HO2.out HX.out (by simp; omega) (by simp; omega) HB2.out.size ?_)
        intro v3 w3 ho3 hb3 _ _
        rw [← HS2.out] at ho3
        have H2 := Lib.hid ho3
        have H3 := Lib.hid (HB2.out.trans hb3)
        clear ho3 hb3
        go_wp2
        go_roundw
        case rel => exact ⟨k + 1, by omega, by go_num, H2.out, H3.out⟩
        case measure => simp [intOf] <;> omega
      · have HS2 := Lib.hid (show itemsL (L.take (k + 1)) = P0 ++ [(2, T)] from HS.out)
        clear HS
        go_upto_if 34 with (fail)
        rw [← hW1]
        clear hW1 c0 c1
        have a1 := HH.out.cell 1 _ rfl
        have HCL := Lib.hid (rclone_any _ T W1 HT.out.ints (by omega))
        go_wp2_with fail
        refine HCL.out.mono ?_
        rintro e w2 ⟨v2, rfl, ho2, b2⟩
        have hh2 := (HeldE.ownedInts ho2).zone (Y := fun b => W1.heap.size ≤ b ∧ b < w2.heap.size) (fun b hb hz => ⟨hz, hb⟩)
        obtain ⟨a2, c2, rfl⟩ := hh2.len
        have HX := Lib.hid (show HeldE cellE (fun b => w1.heap.size ≤ b ∧ t.ownBlock ≠ some b) (w2.alloc (.cells [Value.int .i64 2, .slice a2 T.length c2].toArray 55)) (.slice (some ⟨w2.heap.size, 0, none⟩) 1 1) [(2, T)] from heldE_one (Y := fun b => W1.heap.size ≤ b ∧ b < w2.heap.size) [.int .i64 2, .slice a2 T.length c2] (2, T) (cell_rep.2 ⟨_, rfl, hh2⟩) (fun b _ h => ⟨by have := HSR.out; omega, fun e => by have := (HLO.out _ e).2; have := HSR.out; omega⟩) ⟨by have := HSR.out; have := b2.size; omega, fun e => by have := (HLO.out _ e).2; have := HSR.out; have := b2.size; omega⟩)
        have HO2 := Lib.hid ((HO.out.below b2).below ((Below.refl w2.heap.size w2).alloc (Nat.le_refl _) (.cells [Value.int .i64 2, .slice a2 T.length c2].toArray 55)))
        have HBB := Lib.hid (HB1.out.trans (b2.mono HB1.out.size))
        have HB2 := Lib.hid (HBB.out.alloc HBB.out.size (.cells [Value.int .i64 2, .slice a2 T.length c2].toArray 55))
        clear HO a1 ho2 b2 hh2 HCL
        go_wp2_with (at_builtin; refine wpList_append_e (E := cellE) (Z := fun b => w1.heap.size ≤ b) rfl (.tmp 36) (.tmp 41) 41 rfl (.agg #[.int .i64 0, .slice none 0 0]) 32 Tryd.underlying41 info_item rfl (by decide) rfl rfl HO2.out HX.out (by simp; omega) (by simp; omega) HB2.out.size ?_)
        intro v3 w3 ho3 hb3 _ _
        rw [← HS2.out] at ho3
        have H2 := Lib.hid ho3
        have H3 := Lib.hid (HB2.out.trans hb3)
        clear ho3 hb3
        go_wp2
        go_roundw
        case rel => exact ⟨k + 1, by omega, by go_num, H2.out, H3.out⟩
        case measure => simp [intOf] <;> omega
    · have he : itemsL (L.take k) = itemsL L := by rw [List.take_of_length_le (by omega)]
      rw [he] at hown
      have HO := Lib.hid hown
      clear he hown
      go_wp2
      go_ret2
      exact ⟨_, rfl, (HO.out.base HB.out.size).zone (fun b _ h => Nat.le_trans HB.out.size h), HBX.out⟩
end Go.Proofs.YtmclmhdlnlcafaaDoor
