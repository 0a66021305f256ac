/- ShiftPlays (27.1, 27.2) answers true at every sound row and every list of calls, and turns nothing. -/
import Derived.Test.YtomfclkldmmmgaaDoorShfW
import Derived.Test.YtomfclkldmmmgaaDoorShfS
import Derived.Test.YtomfclkldmmmgaaDoorCellU
import Derived.Test.YtomfclkldmmmgaaDoorCellS
import Derived.Test.YtomfclkldmmmgaaDoorErrS
import Derived.Test.YtomfclkldmmmgaaDoorCards
import Derived.Test.YtomfclkldmmmgaaDoorTie
import Derived.ProofKit
import Derived.Lib.MinMax
namespace Go.Proofs.YtomfclkldmmmgaaDoor.lawShiftPlays
open Go.ChangeShapes Go.WideShapes Go.ChangeAt Go.RowKit
abbrev Act3 := Bool × Int × Int
def actE : Elem Act3 := prE boolE (prE (intE .i64) (intE .i64))
abbrev za : Act3 := (false, 0, 0)
theorem acts_at {Z : Zone} {w : World} {ao : Option Addr} {n cap : Nat} {L : List Act3} (h : HeldE actE Z w (.slice ao n cap) L) : n = L.length ∧ n ≤ cap ∧ ∀ i, i < L.length → ∃ b off, ao = some ⟨b, off, none⟩ ∧ b < w.heap.size ∧
    w.cell? ⟨b, off + i * 3, none⟩ = some (.bool (L.getD i za).1) ∧ w.cell? ⟨b, off + i * 3 + 1, none⟩ = some (.int .i64 (L.getD i za).2.1) ∧ w.cell? ⟨b, off + i * 3 + 2, none⟩ = some (.int .i64 (L.getD i za).2.2) := by
  obtain ⟨h1, h2, h3⟩ := h.spots
  refine ⟨h1, h2, fun i hi => ?_⟩
  obtain ⟨b, off, rfl, hb, hz, C, hC, hr⟩ := h3 i hi
  obtain ⟨C1, C2, rfl, rfl, C3, C4, rfl, rfl, rfl⟩ := hr
  exact ⟨b, off, rfl, hb, hC 0 (by decide), hC 1 (by decide), hC 2 (by decide)⟩
theorem del_spec (L : List Cl) (wrap : Bool) (c n : Int) : (delA L wrap c n).1.length = L.length ∧ (delA L wrap c n).2 = (wrap && !doneB L c n) ∧ (delA L wrap c n).1 = (delA L false c n).1 := by
  unfold delA doneB
  by_cases hb : c < 0 ∨ (L.length : Int) ≤ c ∨ n < 1
  · rw [if_pos hb, if_pos hb, decide_eq_true hb]
    simp
  · rw [if_neg hb, if_neg hb, decide_eq_false hb]
    refine ⟨?_, by simp, rfl⟩
    exact del_len (by omega)
theorem ins_spec (L : List Cl) (wrap : Bool) (c n : Int) : (insA L wrap c n).1.length = L.length ∧ (insA L wrap c n).2 = (wrap && !doneB L c n) ∧ (insA L wrap c n).1 = (insA L false c n).1 := by
  unfold insA doneB
  by_cases hb : c < 0 ∨ (L.length : Int) ≤ c ∨ n < 1
  · rw [if_pos hb, if_pos hb, decide_eq_true hb]
    simp
  · rw [if_neg hb, if_neg hb, decide_eq_false hb]
    refine ⟨?_, by simp, rfl⟩
    exact ins_len (by omega)
set_option maxRecDepth 100000 in
set_option maxHeartbeats 8000000 in
theorem walkH (W : World) (va : Value) (L : List Cl) (Z : Zone) (ha : HeldE cellE Z W va L) (on : Bool) (vb : Value) (A : List Act3) (Y : Zone) (hb : HeldE actE Y W vb A) : Calls Tryd.prog 8 #[va, .bool on, vb] W (Yes W) := by
  have hla := ha.max
  have hlb := hb.max
  have ha := ha.lower
  obtain ⟨ao, ca, rfl⟩ := ha.len
  obtain ⟨bo, cb, rfl⟩ := hb.len
  obtain ⟨_, _, hc⟩ := acts_at hb
  have HA := Lib.hid ha
  have HC := Lib.hid hc
  clear ha hb hc
  by_cases h1 : 60 < L.length
  · go_enter Tryd.func8, Tryd.ntmps8
    go_wp2_with fail
    refine (works27_any _).mono ?_
    rintro e w1 ⟨rfl, b1⟩
    go_wp2_with fail
    refine (works27_any _).mono ?_
    rintro e w2 ⟨rfl, b2⟩
    have b2 := b1.trans (b2.mono b1.size)
    go_wp2
    go_ret
    exact ⟨(ret_eq (by first | rfl | (simp <;> omega))), b2⟩
  have hd60 : decide ((60 : Int) < L.length) = false := by simp; omega
  by_cases h0 : L.length = 0
  · have hz : ((L.length : Int) == 0) = true := by rw [beq_iff_eq]; omega
    go_enter Tryd.func8, Tryd.ntmps8
    go_wp2_with fail
    refine (works27_any _).mono ?_
    rintro e w1 ⟨rfl, b1⟩
    go_wp2_with fail
    refine (works27_any _).mono ?_
    rintro e w2 ⟨rfl, b2⟩
    have b2 := b1.trans (b2.mono b1.size)
    go_wp2
    go_ret
    exact ⟨(ret_eq (by first | rfl | (simp <;> omega))), b2⟩
  have hz : ((L.length : Int) == 0) = false := by rw [beq_eq_false_iff_ne]; omega
  by_cases hs : soundB L = false
  · go_enter Tryd.func8, Tryd.ntmps8
    go_wp2_with fail
    refine (works27_any _).mono ?_
    rintro e w1 ⟨rfl, b1⟩
    have hse := rsound_any _ _ _ _ (HA.out.below b1)
    rw [← sound_iff, hs] at hse
    go_wp2_with fail
    refine hse.mono ?_
    rintro e w2 ⟨rfl, b2⟩
    have b2 := b1.trans (b2.mono b1.size)
    go_wp2_with fail
    refine (works27_any _).mono ?_
    rintro e w3 ⟨rfl, b3⟩
    have b3 := b2.trans (b3.mono b2.size)
    go_wp2
    go_ret
    exact ⟨(ret_eq (by first | rfl | (simp <;> omega))), b3⟩
  have hs : soundB L = true := by simpa using hs
  by_cases h2 : 60 < A.length
  · go_enter Tryd.func8, Tryd.ntmps8
    go_wp2_with fail
    refine (works27_any _).mono ?_
    rintro e w1 ⟨rfl, b1⟩
    have hse := rsound_any _ _ _ _ (HA.out.below b1)
    rw [← sound_iff, hs] at hse
    go_wp2_with fail
    refine hse.mono ?_
    rintro e w2 ⟨rfl, b2⟩
    have b2 := b1.trans (b2.mono b1.size)
    go_wp2_with fail
    refine (works27_any _).mono ?_
    rintro e w3 ⟨rfl, b3⟩
    have b3 := b2.trans (b3.mono b2.size)
    go_wp2
    go_ret
    exact ⟨(ret_eq (by first | rfl | (simp <;> omega))), b3⟩
  have hd61 : decide ((60 : Int) < A.length) = false := by simp; omega
  have HS := Lib.hid hs
  have HLL := Lib.hid (show 0 < L.length ∧ L.length ≤ 60 by omega)
  go_enter Tryd.func8, Tryd.ntmps8
  go_wp2_with fail
  refine (works27_any _).mono ?_
  rintro e w1 ⟨rfl, b1⟩
  have hse := rsound_any _ _ _ _ (HA.out.below b1)
  rw [← sound_iff, hs] at hse
  clear hs
  go_wp2_with fail
  refine hse.mono ?_
  rintro e w2 ⟨rfl, b2⟩
  have B := Lib.hid (b1.trans (b2.mono b1.size))
  clear b1 b2 hse
  have HP := Lib.hid (rof_ok _ _ _ _ (HA.out.below B.out) HLL.out.1 (by have := HLL.out; omega) HS.out)
  go_wp2_with fail
  clear hd60 hz h0 hd61 h1
  refine HP.out.mono ?_
  rintro e w3 ⟨g, gc, rfl, hr3, b3⟩
  have hr3 := hr3.any
  have hlt := hr3.lt
  have HLT := Lib.hid (show W.heap.size ≤ g ∧ W.heap.size ≤ gc ∧ g < w3.heap.size ∧ gc < w3.heap.size from by have := B.out.size; omega)
  have HG := Lib.hid (rgoon_any _ _ g gc _ _ on w3 hr3)
  replace B := Lib.hid (B.out.trans (b3.mono B.out.size))
  clear b3
  clear hr3 hlt HP
  go_wp2_with fail
  refine HG.out.mono ?_
  rintro e w4 ⟨rfl, hr4, u4⟩
  have R := Lib.hid hr4
  replace B := Lib.hid (B.out.upd u4 B.out.size (fun x e => by have := HLT.out; rcases e with e | e <;> omega))
  have HSZ := Lib.hid u4.size
  have C := Lib.hid ((HA.out.below B.out).zone (Y := fun b => b ≠ g ∧ b ≠ gc) (fun b _ hb => by have := HLT.out; exact ⟨by omega, by omega⟩))
  clear hr4 u4 HG
  go_wp2
  go_loopw [0, 1, 9] (fun lv wv i wr => ∃ (k : Nat) (Lk : List Cl) (wk : Bool), k ≤ A.length ∧ i = .int .i64 k ∧ wv = .bool wk ∧ RowAt (fun _ => True) wr w2.heap.size g gc Lk wk ∧ Go.RowKit.Hid (Lk.length = L.length) ∧ HeldE cellE (fun b => b ≠ g ∧ b ≠ gc) wr lv Lk ∧ Below W.heap.size W wr ∧ Go.RowKit.Hid (w3.heap.size ≤ wr.heap.size)) (fun _ _ i _ => A.length - (intOf i).toNat)
  case atStart => exact ⟨0, L, on, Nat.zero_le _, rfl, rfl, R.out, Lib.hid rfl, C.out, B.out, HSZ⟩
  case round =>
    obtain ⟨k, Lk, wk, hk, rfl, rfl, hr, HLK, hcv, hbw, HWS⟩ := hrel
    replace R := Lib.hid hr
    replace C := Lib.hid hcv
    replace B := Lib.hid hbw
    obtain ⟨lo, lc, rfl⟩ := hcv.len
    clear hr hcv hbw
    by_cases hlt : k < A.length
    · obtain ⟨b, off, rfl, hb, c0, c1, c2⟩ := HC.out k hlt
      obtain ⟨⟨D, P, Q⟩, hS⟩ : ∃ y, y = A.getD k za := ⟨_, rfl⟩
      rw [← hS] at c0 c1 c2
      simp only at c0 c1 c2
      have c0 := (B.out.cell (p := ⟨b, off + k * 3, none⟩) hb).trans c0
      have c1 := (B.out.cell (p := ⟨b, off + k * 3 + 1, none⟩) hb).trans c1
      have c2 := (B.out.cell (p := ⟨b, off + k * 3 + 2, none⟩) hb).trans c2
      have hbs : b < wr.heap.size := Nat.lt_of_lt_of_le hb B.out.size
      clear hS
      obtain ⟨W5, hW5⟩ : ∃ W5, W5 = wr.alloc (.cells #[.bool D, .int .i64 P, .int .i64 Q] 67) := ⟨_, rfl⟩
      have b5 : Below wr.heap.size wr W5 := by rw [hW5]; exact (Below.refl _ _).alloc (Nat.le_refl _) _
      have hh5 : Has W5 wr.heap.size [.bool D, .int .i64 P, .int .i64 Q] 67 := by rw [hW5]; exact Has.new wr _ _
      have HH := Lib.hid hh5
      have hlk60 : Lk.length ≤ 1000000 := by have := HLK.out; have := HLL.out; omega
      have hZ5 : ∀ x, W5.heap.size ≤ x → x ≠ g ∧ x ≠ gc := fun x h => by have := HLT.out; have := HWS.out; have := b5.size; omega
      have HWB := Lib.hid (show w3.heap.size ≤ wr.heap.size from HWS.out)
      replace B := Lib.hid (B.out.trans (b5.mono B.out.size))
      replace R := Lib.hid (R.out.below b5)
      replace C := Lib.hid (C.out.below b5)
      replace HWS := Lib.hid (Nat.le_trans HWS.out b5.size)
      clear b5
      cases D with
      | true =>
        have HQ := Lib.hid (rdel_any (fun b => b ≠ g ∧ b ≠ gc) _ Lk wk P Q W5 hZ5 C.out hlk60)
        have HSP := Lib.hid (del_spec Lk wk P Q)
        have HD := Lib.hid (fun w' (h : RowAt (fun _ => True) w' w2.heap.size g gc Lk wk) => sdo_any w2.heap.size g gc Lk wk true P Q w' h)
        clear hZ5 hlk60 hh5
        subst hW5
        go_wp2_with fail
        refine HQ.out.mono ?_
        rintro e w6 ⟨v6, rfl, h6, b6⟩
        have hh6 := HH.out.below b6 HH.out.lt
        obtain ⟨o6, p6, rfl⟩ := h6.len
        replace C := Lib.hid h6
        replace B := Lib.hid (B.out.trans (b6.mono B.out.size))
        replace R := Lib.hid (R.out.below b6)
        replace HWS := Lib.hid (Nat.le_trans HWS.out b6.size)
        clear b6
        obtain ⟨q2, hq2⟩ : ∃ q2, q2 = (delA Lk wk P Q).2 := ⟨_, rfl⟩
        have HWQ := Lib.hid (show (wk && !doneB Lk P Q) = q2 by rw [hq2]; exact HSP.out.2.1.symm)
        obtain ⟨dn, hdn⟩ : ∃ dn, dn = doneB Lk P Q := ⟨_, rfl⟩
        obtain ⟨L2, hL2⟩ : ∃ L2, L2 = (delA Lk wk P Q).1 := ⟨_, rfl⟩
        have HLK2 := Lib.hid (show L2.length = L.length by rw [hL2, HSP.out.1]; exact HLK.out)
        have HD2 := Lib.hid (show ∀ w', RowAt (fun _ => True) w' w2.heap.size g gc Lk wk → Calls Tryd.prog 42 #[.pointer (some ⟨g, 0, none⟩), .agg #[.bool true, .int .i64 P, .int .i64 Q]] w' (RowTurned (fun _ => True) w' w2.heap.size g gc L2 q2) from fun w' h => by rw [hL2, hq2]; exact HD.out w' h)
        rw [← hL2] at C ⊢
        rw [← hdn] at HWQ ⊢
        replace HH := Lib.hid hh6
        clear h6 hL2 hdn hq2 hh6 c0 c1 c2
        have a0 := HH.out.cell 0 _ rfl
        have a1 := HH.out.cell 1 _ rfl
        have a2 := HH.out.cell 2 _ rfl
        have hwq := HWQ.out
        cases wk with
        | true =>
          cases dn with
          | true =>
            obtain rfl : q2 = false := by rw [← hwq]; rfl
            clear hwq
            go_wp2_with fail
            refine (HD2.out w6 R.out).mono ?_
            rintro e w7 ⟨rfl, hr7, u7⟩
            replace R := Lib.hid hr7
            replace C := Lib.hid (C.out.upd u7 (fun b hb e => by rcases e with e | e; exact hb.1 e; exact hb.2 e))
            replace HH := Lib.hid (u7.keep.has HH.out (fun e => by have := HLT.out; have := HWB.out; rcases e with e | e <;> omega))
            replace B := Lib.hid (B.out.upd u7 B.out.size (fun x e => by have := HLT.out; rcases e with e | e <;> omega))
            replace HWS := Lib.hid (Nat.le_trans HWS.out u7.size)
            clear hr7 u7 a0 a1 a2
            have a0 := HH.out.cell 0 _ rfl
            have a1 := HH.out.cell 1 _ rfl
            have a2 := HH.out.cell 2 _ rfl
            go_wp2_with fail
            refine (sdo_nil _ _ _ w7).mono ?_
            rintro e w8 ⟨rfl, b8⟩
            replace B := Lib.hid (B.out.trans (b8.mono B.out.size))
            replace R := Lib.hid (R.out.below b8)
            replace C := Lib.hid (C.out.below b8)
            replace HWS := Lib.hid (Nat.le_trans HWS.out b8.size)
            clear b8
            clear a0 a1 a2
            go_wp2_with fail
            refine (rcells_any _ _ g gc _ _ _ R.out).mono ?_
            rintro e w9 ⟨v9, rfl, ho9, b9⟩
            have H9 := Lib.hid (ho9.held (fun b hb _ => hb))
            replace B := Lib.hid (B.out.trans (b9.mono B.out.size))
            replace R := Lib.hid (R.out.below b9)
            replace C := Lib.hid (C.out.below b9)
            replace HWS := Lib.hid (Nat.le_trans HWS.out b9.size)
            clear b9
            clear ho9
            go_wp2_with fail
            refine (rcsame_any _ _ _ _ _ _ _ H9.out C.out).mono ?_
            rintro e wa ⟨rfl, ba⟩
            rw [sameC_self]
            replace B := Lib.hid (B.out.trans (ba.mono B.out.size))
            replace R := Lib.hid (R.out.below ba)
            replace C := Lib.hid (C.out.below ba)
            replace HWS := Lib.hid (Nat.le_trans HWS.out ba.size)
            clear ba
            go_wp2_with fail
            refine (rwrap_any _ _ g gc _ _ _ R.out).mono ?_
            rintro e wb ⟨rfl, rfl⟩
            go_wp2_with fail
            refine (rcells_any _ _ g gc _ _ _ R.out).mono ?_
            rintro e wb ⟨vb, rfl, hob, bb⟩
            have HB9 := Lib.hid (hob.held (fun b hb _ => hb))
            replace B := Lib.hid (B.out.trans (bb.mono B.out.size))
            replace R := Lib.hid (R.out.below bb)
            replace C := Lib.hid (C.out.below bb)
            replace HWS := Lib.hid (Nat.le_trans HWS.out bb.size)
            clear bb
            clear hob
            have hse := rsound_any _ _ _ _ HB9.out
            rw [← sound_iff, R.out.len.2.2] at hse
            obtain ⟨ob, cbb, rfl⟩ := HB9.out.len
            go_wp2_with fail
            refine hse.mono ?_
            rintro e wc ⟨rfl, bc⟩
            replace B := Lib.hid (B.out.trans (bc.mono B.out.size))
            replace R := Lib.hid (R.out.below bc)
            replace C := Lib.hid (C.out.below bc)
            replace HWS := Lib.hid (Nat.le_trans HWS.out bc.size)
            clear bc
            clear hse
            go_wp2
            go_roundw
            case rel => exact ⟨k + 1, L2, false, by omega, by go_num, rfl, R.out, HLK2, C.out, B.out, HWS⟩
            case measure => simp [intOf] <;> omega
          | false =>
            obtain rfl : q2 = true := by rw [← hwq]; rfl
            clear hwq
            go_wp2_with fail
            refine (HD2.out w6 R.out).mono ?_
            rintro e w7 ⟨rfl, hr7, u7⟩
            replace R := Lib.hid hr7
            replace C := Lib.hid (C.out.upd u7 (fun b hb e => by rcases e with e | e; exact hb.1 e; exact hb.2 e))
            replace HH := Lib.hid (u7.keep.has HH.out (fun e => by have := HLT.out; have := HWB.out; rcases e with e | e <;> omega))
            replace B := Lib.hid (B.out.upd u7 B.out.size (fun x e => by have := HLT.out; rcases e with e | e <;> omega))
            replace HWS := Lib.hid (Nat.le_trans HWS.out u7.size)
            clear hr7 u7 a0 a1 a2
            have a0 := HH.out.cell 0 _ rfl
            have a1 := HH.out.cell 1 _ rfl
            have a2 := HH.out.cell 2 _ rfl
            go_wp2_with fail
            refine (sdo_nil _ _ _ w7).mono ?_
            rintro e w8 ⟨rfl, b8⟩
            replace B := Lib.hid (B.out.trans (b8.mono B.out.size))
            replace R := Lib.hid (R.out.below b8)
            replace C := Lib.hid (C.out.below b8)
            replace HWS := Lib.hid (Nat.le_trans HWS.out b8.size)
            clear b8
            clear a0 a1 a2
            go_wp2_with fail
            refine (rcells_any _ _ g gc _ _ _ R.out).mono ?_
            rintro e w9 ⟨v9, rfl, ho9, b9⟩
            have H9 := Lib.hid (ho9.held (fun b hb _ => hb))
            replace B := Lib.hid (B.out.trans (b9.mono B.out.size))
            replace R := Lib.hid (R.out.below b9)
            replace C := Lib.hid (C.out.below b9)
            replace HWS := Lib.hid (Nat.le_trans HWS.out b9.size)
            clear b9
            clear ho9
            go_wp2_with fail
            refine (rcsame_any _ _ _ _ _ _ _ H9.out C.out).mono ?_
            rintro e wa ⟨rfl, ba⟩
            rw [sameC_self]
            replace B := Lib.hid (B.out.trans (ba.mono B.out.size))
            replace R := Lib.hid (R.out.below ba)
            replace C := Lib.hid (C.out.below ba)
            replace HWS := Lib.hid (Nat.le_trans HWS.out ba.size)
            clear ba
            go_wp2_with fail
            refine (rwrap_any _ _ g gc _ _ _ R.out).mono ?_
            rintro e wb ⟨rfl, rfl⟩
            go_wp2_with fail
            refine (rcells_any _ _ g gc _ _ _ R.out).mono ?_
            rintro e wb ⟨vb, rfl, hob, bb⟩
            have HB9 := Lib.hid (hob.held (fun b hb _ => hb))
            replace B := Lib.hid (B.out.trans (bb.mono B.out.size))
            replace R := Lib.hid (R.out.below bb)
            replace C := Lib.hid (C.out.below bb)
            replace HWS := Lib.hid (Nat.le_trans HWS.out bb.size)
            clear bb
            clear hob
            have hse := rsound_any _ _ _ _ HB9.out
            rw [← sound_iff, R.out.len.2.2] at hse
            obtain ⟨ob, cbb, rfl⟩ := HB9.out.len
            go_wp2_with fail
            refine hse.mono ?_
            rintro e wc ⟨rfl, bc⟩
            replace B := Lib.hid (B.out.trans (bc.mono B.out.size))
            replace R := Lib.hid (R.out.below bc)
            replace C := Lib.hid (C.out.below bc)
            replace HWS := Lib.hid (Nat.le_trans HWS.out bc.size)
            clear bc
            clear hse
            go_wp2
            go_roundw
            case rel => exact ⟨k + 1, L2, true, by omega, by go_num, rfl, R.out, HLK2, C.out, B.out, HWS⟩
            case measure => simp [intOf] <;> omega
        | false =>
          cases dn with
          | true =>
            obtain rfl : q2 = false := by rw [← hwq]; rfl
            clear hwq
            go_wp2_with fail
            refine (HD2.out w6 R.out).mono ?_
            rintro e w7 ⟨rfl, hr7, u7⟩
            replace R := Lib.hid hr7
            replace C := Lib.hid (C.out.upd u7 (fun b hb e => by rcases e with e | e; exact hb.1 e; exact hb.2 e))
            replace HH := Lib.hid (u7.keep.has HH.out (fun e => by have := HLT.out; have := HWB.out; rcases e with e | e <;> omega))
            replace B := Lib.hid (B.out.upd u7 B.out.size (fun x e => by have := HLT.out; rcases e with e | e <;> omega))
            replace HWS := Lib.hid (Nat.le_trans HWS.out u7.size)
            clear hr7 u7 a0 a1 a2
            have a0 := HH.out.cell 0 _ rfl
            have a1 := HH.out.cell 1 _ rfl
            have a2 := HH.out.cell 2 _ rfl
            go_wp2_with fail
            refine (sdo_nil _ _ _ w7).mono ?_
            rintro e w8 ⟨rfl, b8⟩
            replace B := Lib.hid (B.out.trans (b8.mono B.out.size))
            replace R := Lib.hid (R.out.below b8)
            replace C := Lib.hid (C.out.below b8)
            replace HWS := Lib.hid (Nat.le_trans HWS.out b8.size)
            clear b8
            clear a0 a1 a2
            go_wp2_with fail
            refine (rcells_any _ _ g gc _ _ _ R.out).mono ?_
            rintro e w9 ⟨v9, rfl, ho9, b9⟩
            have H9 := Lib.hid (ho9.held (fun b hb _ => hb))
            replace B := Lib.hid (B.out.trans (b9.mono B.out.size))
            replace R := Lib.hid (R.out.below b9)
            replace C := Lib.hid (C.out.below b9)
            replace HWS := Lib.hid (Nat.le_trans HWS.out b9.size)
            clear b9
            clear ho9
            go_wp2_with fail
            refine (rcsame_any _ _ _ _ _ _ _ H9.out C.out).mono ?_
            rintro e wa ⟨rfl, ba⟩
            rw [sameC_self]
            replace B := Lib.hid (B.out.trans (ba.mono B.out.size))
            replace R := Lib.hid (R.out.below ba)
            replace C := Lib.hid (C.out.below ba)
            replace HWS := Lib.hid (Nat.le_trans HWS.out ba.size)
            clear ba
            go_wp2_with fail
            refine (rwrap_any _ _ g gc _ _ _ R.out).mono ?_
            rintro e wb ⟨rfl, rfl⟩
            go_wp2_with fail
            refine (rcells_any _ _ g gc _ _ _ R.out).mono ?_
            rintro e wb ⟨vb, rfl, hob, bb⟩
            have HB9 := Lib.hid (hob.held (fun b hb _ => hb))
            replace B := Lib.hid (B.out.trans (bb.mono B.out.size))
            replace R := Lib.hid (R.out.below bb)
            replace C := Lib.hid (C.out.below bb)
            replace HWS := Lib.hid (Nat.le_trans HWS.out bb.size)
            clear bb
            clear hob
            have hse := rsound_any _ _ _ _ HB9.out
            rw [← sound_iff, R.out.len.2.2] at hse
            obtain ⟨ob, cbb, rfl⟩ := HB9.out.len
            go_wp2_with fail
            refine hse.mono ?_
            rintro e wc ⟨rfl, bc⟩
            replace B := Lib.hid (B.out.trans (bc.mono B.out.size))
            replace R := Lib.hid (R.out.below bc)
            replace C := Lib.hid (C.out.below bc)
            replace HWS := Lib.hid (Nat.le_trans HWS.out bc.size)
            clear bc
            clear hse
            go_wp2
            go_roundw
            case rel => exact ⟨k + 1, L2, false, by omega, by go_num, rfl, R.out, HLK2, C.out, B.out, HWS⟩
            case measure => simp [intOf] <;> omega
          | false =>
            obtain rfl : q2 = false := by rw [← hwq]; rfl
            clear hwq
            go_wp2_with fail
            refine (HD2.out w6 R.out).mono ?_
            rintro e w7 ⟨rfl, hr7, u7⟩
            replace R := Lib.hid hr7
            replace C := Lib.hid (C.out.upd u7 (fun b hb e => by rcases e with e | e; exact hb.1 e; exact hb.2 e))
            replace HH := Lib.hid (u7.keep.has HH.out (fun e => by have := HLT.out; have := HWB.out; rcases e with e | e <;> omega))
            replace B := Lib.hid (B.out.upd u7 B.out.size (fun x e => by have := HLT.out; rcases e with e | e <;> omega))
            replace HWS := Lib.hid (Nat.le_trans HWS.out u7.size)
            clear hr7 u7 a0 a1 a2
            have a0 := HH.out.cell 0 _ rfl
            have a1 := HH.out.cell 1 _ rfl
            have a2 := HH.out.cell 2 _ rfl
            go_wp2_with fail
            refine (sdo_nil _ _ _ w7).mono ?_
            rintro e w8 ⟨rfl, b8⟩
            replace B := Lib.hid (B.out.trans (b8.mono B.out.size))
            replace R := Lib.hid (R.out.below b8)
            replace C := Lib.hid (C.out.below b8)
            replace HWS := Lib.hid (Nat.le_trans HWS.out b8.size)
            clear b8
            clear a0 a1 a2
            go_wp2_with fail
            refine (rcells_any _ _ g gc _ _ _ R.out).mono ?_
            rintro e w9 ⟨v9, rfl, ho9, b9⟩
            have H9 := Lib.hid (ho9.held (fun b hb _ => hb))
            replace B := Lib.hid (B.out.trans (b9.mono B.out.size))
            replace R := Lib.hid (R.out.below b9)
            replace C := Lib.hid (C.out.below b9)
            replace HWS := Lib.hid (Nat.le_trans HWS.out b9.size)
            clear b9
            clear ho9
            go_wp2_with fail
            refine (rcsame_any _ _ _ _ _ _ _ H9.out C.out).mono ?_
            rintro e wa ⟨rfl, ba⟩
            rw [sameC_self]
            replace B := Lib.hid (B.out.trans (ba.mono B.out.size))
            replace R := Lib.hid (R.out.below ba)
            replace C := Lib.hid (C.out.below ba)
            replace HWS := Lib.hid (Nat.le_trans HWS.out ba.size)
            clear ba
            go_wp2_with fail
            refine (rwrap_any _ _ g gc _ _ _ R.out).mono ?_
            rintro e wb ⟨rfl, rfl⟩
            go_wp2_with fail
            refine (rcells_any _ _ g gc _ _ _ R.out).mono ?_
            rintro e wb ⟨vb, rfl, hob, bb⟩
            have HB9 := Lib.hid (hob.held (fun b hb _ => hb))
            replace B := Lib.hid (B.out.trans (bb.mono B.out.size))
            replace R := Lib.hid (R.out.below bb)
            replace C := Lib.hid (C.out.below bb)
            replace HWS := Lib.hid (Nat.le_trans HWS.out bb.size)
            clear bb
            clear hob
            have hse := rsound_any _ _ _ _ HB9.out
            rw [← sound_iff, R.out.len.2.2] at hse
            obtain ⟨ob, cbb, rfl⟩ := HB9.out.len
            go_wp2_with fail
            refine hse.mono ?_
            rintro e wc ⟨rfl, bc⟩
            replace B := Lib.hid (B.out.trans (bc.mono B.out.size))
            replace R := Lib.hid (R.out.below bc)
            replace C := Lib.hid (C.out.below bc)
            replace HWS := Lib.hid (Nat.le_trans HWS.out bc.size)
            clear bc
            clear hse
            go_wp2
            go_roundw
            case rel => exact ⟨k + 1, L2, false, by omega, by go_num, rfl, R.out, HLK2, C.out, B.out, HWS⟩
            case measure => simp [intOf] <;> omega
      | false =>
        have HQ := Lib.hid (rins_any (fun b => b ≠ g ∧ b ≠ gc) _ Lk wk P Q W5 hZ5 C.out hlk60)
        have HSP := Lib.hid (ins_spec Lk wk P Q)
        have HD := Lib.hid (fun w' (h : RowAt (fun _ => True) w' w2.heap.size g gc Lk wk) => sdo_any w2.heap.size g gc Lk wk false P Q w' h)
        clear hZ5 hlk60 hh5
        subst hW5
        go_wp2_with fail
        refine HQ.out.mono ?_
        rintro e w6 ⟨v6, rfl, h6, b6⟩
        have hh6 := HH.out.below b6 HH.out.lt
        obtain ⟨o6, p6, rfl⟩ := h6.len
        replace C := Lib.hid h6
        replace B := Lib.hid (B.out.trans (b6.mono B.out.size))
        replace R := Lib.hid (R.out.below b6)
        replace HWS := Lib.hid (Nat.le_trans HWS.out b6.size)
        clear b6
        obtain ⟨q2, hq2⟩ : ∃ q2, q2 = (insA Lk wk P Q).2 := ⟨_, rfl⟩
        have HWQ := Lib.hid (show (wk && !doneB Lk P Q) = q2 by rw [hq2]; exact HSP.out.2.1.symm)
        obtain ⟨dn, hdn⟩ : ∃ dn, dn = doneB Lk P Q := ⟨_, rfl⟩
        obtain ⟨L2, hL2⟩ : ∃ L2, L2 = (insA Lk wk P Q).1 := ⟨_, rfl⟩
        have HLK2 := Lib.hid (show L2.length = L.length by rw [hL2, HSP.out.1]; exact HLK.out)
        have HD2 := Lib.hid (show ∀ w', RowAt (fun _ => True) w' w2.heap.size g gc Lk wk → Calls Tryd.prog 42 #[.pointer (some ⟨g, 0, none⟩), .agg #[.bool false, .int .i64 P, .int .i64 Q]] w' (RowTurned (fun _ => True) w' w2.heap.size g gc L2 q2) from fun w' h => by rw [hL2, hq2]; exact HD.out w' h)
        rw [← hL2] at C ⊢
        rw [← hdn] at HWQ ⊢
        replace HH := Lib.hid hh6
        clear h6 hL2 hdn hq2 hh6 c0 c1 c2
        have a0 := HH.out.cell 0 _ rfl
        have a1 := HH.out.cell 1 _ rfl
        have a2 := HH.out.cell 2 _ rfl
        have hwq := HWQ.out
        cases wk with
        | true =>
          cases dn with
          | true =>
            obtain rfl : q2 = false := by rw [← hwq]; rfl
            clear hwq
            go_wp2_with fail
            refine (HD2.out w6 R.out).mono ?_
            rintro e w7 ⟨rfl, hr7, u7⟩
            replace R := Lib.hid hr7
            replace C := Lib.hid (C.out.upd u7 (fun b hb e => by rcases e with e | e; exact hb.1 e; exact hb.2 e))
            replace HH := Lib.hid (u7.keep.has HH.out (fun e => by have := HLT.out; have := HWB.out; rcases e with e | e <;> omega))
            replace B := Lib.hid (B.out.upd u7 B.out.size (fun x e => by have := HLT.out; rcases e with e | e <;> omega))
            replace HWS := Lib.hid (Nat.le_trans HWS.out u7.size)
            clear hr7 u7 a0 a1 a2
            have a0 := HH.out.cell 0 _ rfl
            have a1 := HH.out.cell 1 _ rfl
            have a2 := HH.out.cell 2 _ rfl
            go_wp2_with fail
            refine (sdo_nil _ _ _ w7).mono ?_
            rintro e w8 ⟨rfl, b8⟩
            replace B := Lib.hid (B.out.trans (b8.mono B.out.size))
            replace R := Lib.hid (R.out.below b8)
            replace C := Lib.hid (C.out.below b8)
            replace HWS := Lib.hid (Nat.le_trans HWS.out b8.size)
            clear b8
            clear a0 a1 a2
            go_wp2_with fail
            refine (rcells_any _ _ g gc _ _ _ R.out).mono ?_
            rintro e w9 ⟨v9, rfl, ho9, b9⟩
            have H9 := Lib.hid (ho9.held (fun b hb _ => hb))
            replace B := Lib.hid (B.out.trans (b9.mono B.out.size))
            replace R := Lib.hid (R.out.below b9)
            replace C := Lib.hid (C.out.below b9)
            replace HWS := Lib.hid (Nat.le_trans HWS.out b9.size)
            clear b9
            clear ho9
            go_wp2_with fail
            refine (rcsame_any _ _ _ _ _ _ _ H9.out C.out).mono ?_
            rintro e wa ⟨rfl, ba⟩
            rw [sameC_self]
            replace B := Lib.hid (B.out.trans (ba.mono B.out.size))
            replace R := Lib.hid (R.out.below ba)
            replace C := Lib.hid (C.out.below ba)
            replace HWS := Lib.hid (Nat.le_trans HWS.out ba.size)
            clear ba
            go_wp2_with fail
            refine (rwrap_any _ _ g gc _ _ _ R.out).mono ?_
            rintro e wb ⟨rfl, rfl⟩
            go_wp2_with fail
            refine (rcells_any _ _ g gc _ _ _ R.out).mono ?_
            rintro e wb ⟨vb, rfl, hob, bb⟩
            have HB9 := Lib.hid (hob.held (fun b hb _ => hb))
            replace B := Lib.hid (B.out.trans (bb.mono B.out.size))
            replace R := Lib.hid (R.out.below bb)
            replace C := Lib.hid (C.out.below bb)
            replace HWS := Lib.hid (Nat.le_trans HWS.out bb.size)
            clear bb
            clear hob
            have hse := rsound_any _ _ _ _ HB9.out
            rw [← sound_iff, R.out.len.2.2] at hse
            obtain ⟨ob, cbb, rfl⟩ := HB9.out.len
            go_wp2_with fail
            refine hse.mono ?_
            rintro e wc ⟨rfl, bc⟩
            replace B := Lib.hid (B.out.trans (bc.mono B.out.size))
            replace R := Lib.hid (R.out.below bc)
            replace C := Lib.hid (C.out.below bc)
            replace HWS := Lib.hid (Nat.le_trans HWS.out bc.size)
            clear bc
            clear hse
            go_wp2
            go_roundw
            case rel => exact ⟨k + 1, L2, false, by omega, by go_num, rfl, R.out, HLK2, C.out, B.out, HWS⟩
            case measure => simp [intOf] <;> omega
          | false =>
            obtain rfl : q2 = true := by rw [← hwq]; rfl
            clear hwq
            go_wp2_with fail
            refine (HD2.out w6 R.out).mono ?_
            rintro e w7 ⟨rfl, hr7, u7⟩
            replace R := Lib.hid hr7
            replace C := Lib.hid (C.out.upd u7 (fun b hb e => by rcases e with e | e; exact hb.1 e; exact hb.2 e))
            replace HH := Lib.hid (u7.keep.has HH.out (fun e => by have := HLT.out; have := HWB.out; rcases e with e | e <;> omega))
            replace B := Lib.hid (B.out.upd u7 B.out.size (fun x e => by have := HLT.out; rcases e with e | e <;> omega))
            replace HWS := Lib.hid (Nat.le_trans HWS.out u7.size)
            clear hr7 u7 a0 a1 a2
            have a0 := HH.out.cell 0 _ rfl
            have a1 := HH.out.cell 1 _ rfl
            have a2 := HH.out.cell 2 _ rfl
            go_wp2_with fail
            refine (sdo_nil _ _ _ w7).mono ?_
            rintro e w8 ⟨rfl, b8⟩
            replace B := Lib.hid (B.out.trans (b8.mono B.out.size))
            replace R := Lib.hid (R.out.below b8)
            replace C := Lib.hid (C.out.below b8)
            replace HWS := Lib.hid (Nat.le_trans HWS.out b8.size)
            clear b8
            clear a0 a1 a2
            go_wp2_with fail
            refine (rcells_any _ _ g gc _ _ _ R.out).mono ?_
            rintro e w9 ⟨v9, rfl, ho9, b9⟩
            have H9 := Lib.hid (ho9.held (fun b hb _ => hb))
            replace B := Lib.hid (B.out.trans (b9.mono B.out.size))
            replace R := Lib.hid (R.out.below b9)
            replace C := Lib.hid (C.out.below b9)
            replace HWS := Lib.hid (Nat.le_trans HWS.out b9.size)
            clear b9
            clear ho9
            go_wp2_with fail
            refine (rcsame_any _ _ _ _ _ _ _ H9.out C.out).mono ?_
            rintro e wa ⟨rfl, ba⟩
            rw [sameC_self]
            replace B := Lib.hid (B.out.trans (ba.mono B.out.size))
            replace R := Lib.hid (R.out.below ba)
            replace C := Lib.hid (C.out.below ba)
            replace HWS := Lib.hid (Nat.le_trans HWS.out ba.size)
            clear ba
            go_wp2_with fail
            refine (rwrap_any _ _ g gc _ _ _ R.out).mono ?_
            rintro e wb ⟨rfl, rfl⟩
            go_wp2_with fail
            refine (rcells_any _ _ g gc _ _ _ R.out).mono ?_
            rintro e wb ⟨vb, rfl, hob, bb⟩
            have HB9 := Lib.hid (hob.held (fun b hb _ => hb))
            replace B := Lib.hid (B.out.trans (bb.mono B.out.size))
            replace R := Lib.hid (R.out.below bb)
            replace C := Lib.hid (C.out.below bb)
            replace HWS := Lib.hid (Nat.le_trans HWS.out bb.size)
            clear bb
            clear hob
            have hse := rsound_any _ _ _ _ HB9.out
            rw [← sound_iff, R.out.len.2.2] at hse
            obtain ⟨ob, cbb, rfl⟩ := HB9.out.len
            go_wp2_with fail
            refine hse.mono ?_
            rintro e wc ⟨rfl, bc⟩
            replace B := Lib.hid (B.out.trans (bc.mono B.out.size))
            replace R := Lib.hid (R.out.below bc)
            replace C := Lib.hid (C.out.below bc)
            replace HWS := Lib.hid (Nat.le_trans HWS.out bc.size)
            clear bc
            clear hse
            go_wp2
            go_roundw
            case rel => exact ⟨k + 1, L2, true, by omega, by go_num, rfl, R.out, HLK2, C.out, B.out, HWS⟩
            case measure => simp [intOf] <;> omega
        | false =>
          cases dn with
          | true =>
            obtain rfl : q2 = false := by rw [← hwq]; rfl
            clear hwq
            go_wp2_with fail
            refine (HD2.out w6 R.out).mono ?_
            rintro e w7 ⟨rfl, hr7, u7⟩
            replace R := Lib.hid hr7
            replace C := Lib.hid (C.out.upd u7 (fun b hb e => by rcases e with e | e; exact hb.1 e; exact hb.2 e))
            replace HH := Lib.hid (u7.keep.has HH.out (fun e => by have := HLT.out; have := HWB.out; rcases e with e | e <;> omega))
            replace B := Lib.hid (B.out.upd u7 B.out.size (fun x e => by have := HLT.out; rcases e with e | e <;> omega))
            replace HWS := Lib.hid (Nat.le_trans HWS.out u7.size)
            clear hr7 u7 a0 a1 a2
            have a0 := HH.out.cell 0 _ rfl
            have a1 := HH.out.cell 1 _ rfl
            have a2 := HH.out.cell 2 _ rfl
            go_wp2_with fail
            refine (sdo_nil _ _ _ w7).mono ?_
            rintro e w8 ⟨rfl, b8⟩
            replace B := Lib.hid (B.out.trans (b8.mono B.out.size))
            replace R := Lib.hid (R.out.below b8)
            replace C := Lib.hid (C.out.below b8)
            replace HWS := Lib.hid (Nat.le_trans HWS.out b8.size)
            clear b8
            clear a0 a1 a2
            go_wp2_with fail
            refine (rcells_any _ _ g gc _ _ _ R.out).mono ?_
            rintro e w9 ⟨v9, rfl, ho9, b9⟩
            have H9 := Lib.hid (ho9.held (fun b hb _ => hb))
            replace B := Lib.hid (B.out.trans (b9.mono B.out.size))
            replace R := Lib.hid (R.out.below b9)
            replace C := Lib.hid (C.out.below b9)
            replace HWS := Lib.hid (Nat.le_trans HWS.out b9.size)
            clear b9
            clear ho9
            go_wp2_with fail
            refine (rcsame_any _ _ _ _ _ _ _ H9.out C.out).mono ?_
            rintro e wa ⟨rfl, ba⟩
            rw [sameC_self]
            replace B := Lib.hid (B.out.trans (ba.mono B.out.size))
            replace R := Lib.hid (R.out.below ba)
            replace C := Lib.hid (C.out.below ba)
            replace HWS := Lib.hid (Nat.le_trans HWS.out ba.size)
            clear ba
            go_wp2_with fail
            refine (rwrap_any _ _ g gc _ _ _ R.out).mono ?_
            rintro e wb ⟨rfl, rfl⟩
            go_wp2_with fail
            refine (rcells_any _ _ g gc _ _ _ R.out).mono ?_
            rintro e wb ⟨vb, rfl, hob, bb⟩
            have HB9 := Lib.hid (hob.held (fun b hb _ => hb))
            replace B := Lib.hid (B.out.trans (bb.mono B.out.size))
            replace R := Lib.hid (R.out.below bb)
            replace C := Lib.hid (C.out.below bb)
            replace HWS := Lib.hid (Nat.le_trans HWS.out bb.size)
            clear bb
            clear hob
            have hse := rsound_any _ _ _ _ HB9.out
            rw [← sound_iff, R.out.len.2.2] at hse
            obtain ⟨ob, cbb, rfl⟩ := HB9.out.len
            go_wp2_with fail
            refine hse.mono ?_
            rintro e wc ⟨rfl, bc⟩
            replace B := Lib.hid (B.out.trans (bc.mono B.out.size))
            replace R := Lib.hid (R.out.below bc)
            replace C := Lib.hid (C.out.below bc)
            replace HWS := Lib.hid (Nat.le_trans HWS.out bc.size)
            clear bc
            clear hse
            go_wp2
            go_roundw
            case rel => exact ⟨k + 1, L2, false, by omega, by go_num, rfl, R.out, HLK2, C.out, B.out, HWS⟩
            case measure => simp [intOf] <;> omega
          | false =>
            obtain rfl : q2 = false := by rw [← hwq]; rfl
            clear hwq
            go_wp2_with fail
            refine (HD2.out w6 R.out).mono ?_
            rintro e w7 ⟨rfl, hr7, u7⟩
            replace R := Lib.hid hr7
            replace C := Lib.hid (C.out.upd u7 (fun b hb e => by rcases e with e | e; exact hb.1 e; exact hb.2 e))
            replace HH := Lib.hid (u7.keep.has HH.out (fun e => by have := HLT.out; have := HWB.out; rcases e with e | e <;> omega))
            replace B := Lib.hid (B.out.upd u7 B.out.size (fun x e => by have := HLT.out; rcases e with e | e <;> omega))
            replace HWS := Lib.hid (Nat.le_trans HWS.out u7.size)
            clear hr7 u7 a0 a1 a2
            have a0 := HH.out.cell 0 _ rfl
            have a1 := HH.out.cell 1 _ rfl
            have a2 := HH.out.cell 2 _ rfl
            go_wp2_with fail
            refine (sdo_nil _ _ _ w7).mono ?_
            rintro e w8 ⟨rfl, b8⟩
            replace B := Lib.hid (B.out.trans (b8.mono B.out.size))
            replace R := Lib.hid (R.out.below b8)
            replace C := Lib.hid (C.out.below b8)
            replace HWS := Lib.hid (Nat.le_trans HWS.out b8.size)
            clear b8
            clear a0 a1 a2
            go_wp2_with fail
            refine (rcells_any _ _ g gc _ _ _ R.out).mono ?_
            rintro e w9 ⟨v9, rfl, ho9, b9⟩
            have H9 := Lib.hid (ho9.held (fun b hb _ => hb))
            replace B := Lib.hid (B.out.trans (b9.mono B.out.size))
            replace R := Lib.hid (R.out.below b9)
            replace C := Lib.hid (C.out.below b9)
            replace HWS := Lib.hid (Nat.le_trans HWS.out b9.size)
            clear b9
            clear ho9
            go_wp2_with fail
            refine (rcsame_any _ _ _ _ _ _ _ H9.out C.out).mono ?_
            rintro e wa ⟨rfl, ba⟩
            rw [sameC_self]
            replace B := Lib.hid (B.out.trans (ba.mono B.out.size))
            replace R := Lib.hid (R.out.below ba)
            replace C := Lib.hid (C.out.below ba)
            replace HWS := Lib.hid (Nat.le_trans HWS.out ba.size)
            clear ba
            go_wp2_with fail
            refine (rwrap_any _ _ g gc _ _ _ R.out).mono ?_
            rintro e wb ⟨rfl, rfl⟩
            go_wp2_with fail
            refine (rcells_any _ _ g gc _ _ _ R.out).mono ?_
            rintro e wb ⟨vb, rfl, hob, bb⟩
            have HB9 := Lib.hid (hob.held (fun b hb _ => hb))
            replace B := Lib.hid (B.out.trans (bb.mono B.out.size))
            replace R := Lib.hid (R.out.below bb)
            replace C := Lib.hid (C.out.below bb)
            replace HWS := Lib.hid (Nat.le_trans HWS.out bb.size)
            clear bb
            clear hob
            have hse := rsound_any _ _ _ _ HB9.out
            rw [← sound_iff, R.out.len.2.2] at hse
            obtain ⟨ob, cbb, rfl⟩ := HB9.out.len
            go_wp2_with fail
            refine hse.mono ?_
            rintro e wc ⟨rfl, bc⟩
            replace B := Lib.hid (B.out.trans (bc.mono B.out.size))
            replace R := Lib.hid (R.out.below bc)
            replace C := Lib.hid (C.out.below bc)
            replace HWS := Lib.hid (Nat.le_trans HWS.out bc.size)
            clear bc
            clear hse
            go_wp2
            go_roundw
            case rel => exact ⟨k + 1, L2, false, by omega, by go_num, rfl, R.out, HLK2, C.out, B.out, HWS⟩
            case measure => simp [intOf] <;> omega
    · have hnl : ¬ (k < A.length) := hlt
      go_wp2
      go_ret
      exact ⟨(ret_eq (by first | rfl | (simp <;> omega))), B.out⟩
theorem acts_opens : Opens Tryd.prog actE (fun x => True ∧ (Lit.int .i64 x.2.1).wf = true ∧ (Lit.int .i64 x.2.2).wf = true) 67 :=
  opens_triple Tryd.underlying67 (by kernel_rfl) rfl rfl rfl (opens_bool Tryd.underlying4 (by kernel_rfl)) (opens_int Tryd.underlying3 (by kernel_rfl)) (opens_int Tryd.underlying3 (by kernel_rfl))
set_option maxRecDepth 100000 in
theorem walk {H : Type} {enc : TypeId × Value → H} (W : World) (u : Value) {base : Nat} {d : DataW H} {p : List MemPlace} (hv : Value.okWide Tryd.prog W .any base 22 u) (h : DataW.Trod enc Tryd.prog W 0 (fun _ => true) true 22 u d p) (on : Bool) (u' : Value) {base' : Nat} {d' : DataW H} {p' : List MemPlace} (hv' : Value.okWide Tryd.prog W .any base' 65 u') (h' : DataW.Trod enc Tryd.prog W 0 (fun _ => true) true 65 u' d' p') (_ : laidMetH Tryd.prog Rows.shiftPlaysRow.laid W) : Calls Tryd.prog 8 #[u, .bool on, u'] W (Yes W) := by
  obtain ⟨L, hL, _⟩ := cells_arg hv h
  obtain ⟨A, hA, _⟩ := opens_arg Tryd.underlying65 (by kernel_rfl) (by decide) acts_opens hv' h'
  exact walkH W u L _ hL on u' A _ hA

theorem door_met (os : Os) : laidMetH Tryd.prog Rows.shiftPlaysRow.laid ((World.doorLaid Tryd.prog 400 os).forCall (fun _ _ => 0) ⟨#[], #[.slice none 0 0, .bool false, .slice none 0 0], []⟩).memory :=
  laidMetH_of_parts3 (fuel := 8) (laidMet_of_run' 8 (by kernel_rfl) (by kernel_rfl)) (by kernel_rfl) (by kernel_rfl)

set_option maxRecDepth 100000 in
theorem lifted (os : Os) (started : os.Started) (H : Type) (enc : TypeId × Value → H) :
    ReturnsInHanded {} Tryd.checked os 8 .any (fun w args => (Rows.shiftPlaysSpec.pre enc Tryd.prog Tryd.f8 [] false w args ∧ laidMetH Tryd.prog Rows.shiftPlaysRow.laid w) ∧ sizedMet enc Tryd.prog Tryd.f8 (OpenSpec.ofChange Rows.shiftPlaysSpec) false w args)
      (Rows.shiftPlaysSpec.post enc Tryd.prog Tryd.f8 false true false false) := by
  refine law_frame (C := Tryd.checked) (tb := 4) (by kernel_rfl) started (by kernel_rfl) Tryd.func8 (by kernel_rfl) (by kernel_rfl) Tryd.underlying4 rfl
    (by rw [Tryd.params8]; intro t ht; simp at ht; rcases ht with rfl | rfl | rfl <;> exact ⟨by kernel_rfl, of_decide_eq_true (by kernel_rfl)⟩)
    (by rw [Tryd.params8]; intro ds hd; match ds, hd with | [_, _, _], _ => rfl)
    (ChangeSpec.witness_shaped (enc := enc) (C := Tryd.checked) (os := os) (X := fun w _ => laidMetH Tryd.prog Rows.shiftPlaysRow.laid w) false (World.doorLaid Tryd.prog 400 os) #[.slice none 0 0, .bool false, .slice none 0 0] 8 rfl (World.shaped_of_RefB (by kernel_rfl) (by kernel_rfl)) (by kernel_rfl) (by kernel_rfl) (by kernel_rfl) (door_met os)) ?_
  intro W base args ds before hval hA hsz hL
  rw [Tryd.params8] at hA hval
  obtain ⟨v0, vs0, d0, ds0, p0, q0, hargs, rfl, rfl, h0, r0⟩ := trodAll_cons hA
  obtain ⟨v1, vs1, d1, ds1, p1, q1, rfl, rfl, rfl, h1, r1⟩ := trodAll_cons r0
  obtain ⟨v2, vs2, d2, ds2, p2, q2, rfl, rfl, rfl, h2, r2⟩ := trodAll_cons r1
  obtain ⟨rfl, rfl, rfl⟩ := trodAll_nil r2
  obtain rfl : args = #[v0, v1, v2] := by cases args; simp_all
  obtain ⟨x1, rfl, rfl, rfl⟩ := open_bool Tryd.underlying4 (hval 1 4 v1 rfl rfl) h1
  exact walk W v0 (hval 0 22 v0 rfl rfl) h0 x1 v2 (hval 2 65 v2 rfl rfl) h2 hL

theorem said : Rows.ShiftPlaysSaid :=
  OpenClaim.holds_of_wide 8 Tryd.f8 rfl rfl rfl rfl rfl rfl rfl ⟨rfl, rfl, rfl, rfl, rfl⟩ rfl rfl rfl rfl rfl (by kernel_rfl) Tryd.func8 (by kernel_rfl)
    (of_decide_eq_true (by kernel_rfl)) (by unfold Func.isWrapper; first | (rw [if_pos (by decide +kernel)]; kernel_rfl) | (rw [if_neg (by decide +kernel)]; exact ⟨rfl, rfl⟩))
    (fun os started H enc _ => lifted os started H enc)

theorem plain (f : FuncId) (fn : Func) (hf : Tryd.pinned.checked.prog.funcNamed "linotype/linotypelaw27.ShiftPlays" = some f) (hfn : Tryd.pinned.checked.prog.funcs[f]? = some fn) :
    true = Tryd.pinned.checked.prog.looks [] ∧ ∀ (j : Nat) t, fn.params[j]? = some t → Tryd.pinned.checked.prog.wantsStandIn t = false := by
  obtain rfl : f = 8 := Option.some.inj ((show Tryd.prog.funcNamed "linotype/linotypelaw27.ShiftPlays" = some 8 by kernel_rfl).symm.trans hf) |>.symm
  obtain rfl : fn = Tryd.f8 := (Option.some.inj (Tryd.func8.symm.trans hfn)).symm
  refine ⟨by kernel_rfl, fun j t ht => ?_⟩
  rw [Tryd.params8] at ht
  have hm : t ∈ [22, 4, 65] := by simpa using Array.mem_of_getElem? ht
  have hall : ([22, 4, 65].all fun u => !Tryd.prog.wantsStandIn u) = true := by kernel_rfl
  exact (show Tryd.prog.wantsStandIn t = false by simpa using List.all_eq_true.1 hall t hm)

/-- THE CARD. -/
theorem card : Rows.ShiftPlaysCardSaid :=
  Claim7.holds_tied_plain_at .later [] _ _ _ _ said (fun _ h => by cases h) (by kernel_rfl) (fun _ h => by cases h) shiftPlays_row_tie rfl ⟨rfl, rfl⟩ (by kernel_rfl) rfl plain (by kernel_rfl)
#print axioms card

end Go.Proofs.YtomfclkldmmmgaaDoor.lawShiftPlays
