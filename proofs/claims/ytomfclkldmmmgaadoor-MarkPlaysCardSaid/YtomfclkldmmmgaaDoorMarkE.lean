/- mark: Add, Widen. -/
import Derived.Test.YtomfclkldmmmgaaDoorMarkD
import Derived.Test.YtomfclkldmmmgaaDoorReg
import Derived.Test.YtomfclkldmmmgaaDoorAppK
namespace Go.Proofs.YtomfclkldmmmgaaDoor
open Go.RowKit Go.ChangeShapes Go.WideShapes
theorem wrong_none {n : Nat} {a : Nat} {p : List Cl} (h : a + p.length ≤ n) (hs : soundB p = true) : wrongI n (a : Int) p = 0 := by
  unfold wrongI
  rw [if_neg (by omega), if_pos hs]
def Turned3Z (Z : Zone) (w : World) (B g gc : Nat) (r : List Cl × Bool × Bool) (e : Ending) (w' : World) : Prop := e = .returned (.bool r.2.2) ∧ RowAt Z w' B g gc r.1 r.2.1 ∧ Upd (fun b => b = g ∨ b = gc) w w'
def Turned3 (w : World) (B g gc : Nat) (r : List Cl × Bool × Bool) (e : Ending) (w' : World) : Prop := e = .returned (.bool r.2.2) ∧ RowAt (fun _ => True) w' B g gc r.1 r.2.1 ∧ Upd (fun b => b = g ∨ b = gc) w w'
theorem Turned3Z.same {Z : Zone} {w w' : World} {B g gc : Nat} {L : List Cl} {wrap : Bool} (h : RowAt Z w B g gc L wrap) (b : Below w.heap.size w w') : Turned3Z Z w B g gc (L, wrap, false) (.returned (.bool false)) w' := ⟨rfl, h.below b, .ofBelow b⟩
theorem Turned3.same {w w' : World} {B g gc : Nat} {L : List Cl} {wrap : Bool} (h : RowAt (fun _ => True) w B g gc L wrap) (b : Below w.heap.size w w') : Turned3 w B g gc (L, wrap, false) (.returned (.bool false)) w' := ⟨rfl, h.below b, .ofBelow b⟩
set_option maxRecDepth 100000 in
set_option maxHeartbeats 1000000 in
theorem mwid_z (Z : Zone) (B g gc : Nat) (L : List Cl) (wrap : Bool) (col : Int) (w : World) (hZ : ∀ b, w.heap.size ≤ b → Z b) (h : RowAt Z w B g gc L wrap) : Calls Tryd.prog 32 #[.pointer (some ⟨g, 0, none⟩), .int .i64 col] w (Turned3Z Z w B g gc (widL L wrap col)) := by
  obtain ⟨hl0, hl1, hls⟩ := h.len
  have HR := Lib.hid h
  have HZ := Lib.hid hZ
  clear hZ
  by_cases ho : col < 0 ∨ (L.length : Int) ≤ col
  · have HE := Lib.hid (show widL L wrap col = (L, wrap, false) by unfold widL; rw [if_pos (by omega)])
    have HC := Lib.hid (rcell_out _ _ _ _ _ _ col _ h ho)
    clear h hls ho
    go_enter Tryd.func32, Tryd.ntmps32
    go_wp2_with fail
    refine HC.out.mono ?_
    rintro e w1 ⟨rfl, b1⟩
    have HB := Lib.hid (b1.alloc b1.size (.cells #[.int .i64 0, .slice none 0 0] 27))
    clear b1
    go_wp2
    go_ret
    rw [HE.out]
    exact Turned3Z.same HR.out HB.out
  obtain ⟨k, rfl⟩ := Int.eq_ofNat_of_zero_le (show 0 ≤ col by omega)
  have hk : k < L.length := by omega
  clear ho
  have HC := Lib.hid (rcell_own _ _ _ _ _ _ k _ h hk)
  have HW := Lib.hid (fun w' (b : Below w.heap.size w w') => rwide_any _ _ _ _ _ _ w' (h.below b))
  have hwE : widL L wrap (k : Int) = if (L.length : Int) - 1 ≤ k ∨ (L.getD k zc).1 ≠ 1 then (L, wrap, false) else (paintL L (ofC 2 (L.getD k zc).2) k, wrap && !lastHit L (ofC 2 (L.getD k zc).2) k, true) := by
    unfold widL
    rw [kind_nat]
    by_cases hq : (L.length : Int) - 1 ≤ k ∨ (L.getD k zc).1 ≠ 1
    · rw [if_pos hq, if_pos (.inr hq)]
    · rw [if_neg hq, if_neg (by omega)]
      simp
  have HWG := Lib.hid (wrong_none (n := L.length) (a := k) (p := ofC 2 (L.getD k zc).2))
  have HOL := Lib.hid (show (ofC 2 (L.getD k zc).2).length = 2 by rw [ofC_len]; rfl)
  have HOS := Lib.hid (ofC_sound 2 (L.getD k zc).2)
  have hwr : IntKind.i64.wrap ((L.length : Int) - 1) = (L.length : Int) - 1 := by rw [IntKind.wrap_i64]; omega
  generalize L.getD k zc = c at HC hwE HWG HOL HOS
  obtain ⟨K, T⟩ := c
  simp only at hwE
  by_cases hk1 : K = 1
  · subst hk1
    by_cases hl : (k : Int) = (L.length : Int) - 1
    · have HE := Lib.hid (show widL L wrap k = (L, wrap, false) by rw [hwE, if_pos (.inl (by omega))])
      have hd : ((k : Int) == (L.length : Int) - 1) = true := by rw [beq_iff_eq]; exact hl
      clear h hls hwE hl HWG HOL HOS
      go_enter Tryd.func32, Tryd.ntmps32
      go_wp2_with fail
      refine HC.out.mono ?_
      rintro e w1 ⟨tv, rfl, ho1, b1⟩
      obtain ⟨ta, tc, rfl⟩ := ho1.heldInts.len
      have hb1 := b1.alloc b1.size (.cells #[.int .i64 1, .slice ta T.length tc] 27)
      have HB := Lib.hid hb1
      have HW1 := Lib.hid (HW.out _ hb1)
      clear b1 hb1 ho1
      go_wp2_with fail
      refine HW1.out.mono ?_
      rintro e w2 ⟨rfl, rfl⟩
      go_wp2
      go_ret
      rw [HE.out]
      exact Turned3Z.same HR.out HB.out
    · have HE := Lib.hid (show widL L wrap k = (paintL L (ofC 2 T) k, wrap && !lastHit L (ofC 2 T) k, true) by rw [hwE, if_neg (by omega)])
      have hd : ((k : Int) == (L.length : Int) - 1) = false := by rw [beq_eq_false_iff_ne]; exact hl
      have HG := Lib.hid (HWG.out (by rw [HOL.out]; omega) HOS.out)
      clear h hls hwE hl HWG HOL HOS
      go_enter Tryd.func32, Tryd.ntmps32
      go_wp2_with fail
      refine HC.out.mono ?_
      rintro e w1 ⟨tv, rfl, ho1, b1⟩
      have hh1 := ho1.heldInts
      obtain ⟨ta, tc, rfl⟩ := hh1.len
      obtain ⟨W, hW⟩ : ∃ W, W = w1.alloc (.cells #[.int .i64 1, .slice ta T.length tc] 27) := ⟨_, rfl⟩
      have bW : Below w1.heap.size w1 W := by rw [hW]; exact (Below.refl _ _).alloc (Nat.le_refl _) _
      have hb1 := b1.trans (bW.mono b1.size)
      have HW1 := Lib.hid (HW.out _ hb1)
      have HP := Lib.hid (mput_z Z _ B g gc L wrap (k : Int) 2 _ T W (fun b hb => HZ.out b (Nat.le_trans hb1.size hb)) (HR.out.below hb1) (hh1.below bW) HG.out)
      rw [Int.toNat_natCast] at HP
      have HU := Lib.hid (Upd.ofBelow (S := fun b => b = g ∨ b = gc) hb1)
      subst hW
      clear b1 bW hb1 ho1 hh1
      go_wp2_with fail
      refine HW1.out.mono ?_
      rintro e w2 ⟨rfl, rfl⟩
      go_wp2_with fail
      refine HP.out.mono ?_
      rintro e w3 ⟨rfl, hr3, u3⟩
      have HF := Lib.hid (And.intro hr3 (HU.out.trans u3))
      clear hr3 u3
      go_wp2
      go_ret
      rw [HE.out]
      exact ⟨rfl, HF.out.1, HF.out.2⟩
  · have HE := Lib.hid (show widL L wrap k = (L, wrap, false) by rw [hwE, if_pos (.inr hk1)])
    have hd : (K != 1) = true := by simp [hk1]
    have hd2 : (K == 1) = false := by simp [hk1]
    clear h hls hwE hk1 HWG HOL HOS
    go_enter Tryd.func32, Tryd.ntmps32
    go_wp2_with fail
    refine HC.out.mono ?_
    rintro e w1 ⟨tv, rfl, ho1, b1⟩
    obtain ⟨ta, tc, rfl⟩ := ho1.heldInts.len
    have hb1 := b1.alloc b1.size (.cells #[.int .i64 K, .slice ta T.length tc] 27)
    have HB := Lib.hid hb1
    clear b1 hb1 ho1
    go_wp2
    go_ret
    rw [HE.out]
    exact Turned3Z.same HR.out HB.out
theorem mwid_any (B g gc : Nat) (L : List Cl) (wrap : Bool) (col : Int) (w : World) (h : RowAt (fun _ => True) w B g gc L wrap) : Calls Tryd.prog 32 #[.pointer (some ⟨g, 0, none⟩), .int .i64 col] w (Turned3 w B g gc (widL L wrap col)) :=
  mwid_z (fun _ => True) B g gc L wrap col w (fun _ _ => trivial) h
theorem mwid_nil (col : Int) (w : World) : Calls Tryd.prog 32 #[.pointer none, .int .i64 col] w (Gives w (.bool false)) := by
  go_enter Tryd.func32, Tryd.ntmps32
  go_wp2_with fail
  refine (rcell_nil col w).mono ?_
  rintro e w1 ⟨rfl, b1⟩
  have HB := Lib.hid (b1.alloc b1.size (.cells #[.int .i64 0, .slice none 0 0] 27))
  clear b1
  go_wp2
  go_ret
  exact ⟨rfl, HB.out⟩
end Go.Proofs.YtomfclkldmmmgaaDoor
