/- Contracts of border's exported functions and of the reference's of layer 17. -/
import Derived.Test.YtbchdpgcjiepfaaBordC
namespace Go.Proofs.Ytbchdpgcjiepfaa
open Go.RowKit Go.ChangeShapes Go.WideShapes
set_option maxRecDepth 100000 in
theorem upto_any (xs : List Int) (v : Value) (t : Int) (w : World) (hh : Held .i64 w v (toI (bAll xs))) (hn : xs.length ≤ 1000000) :
    Calls Try.prog 16 #[v, .int .i64 t] w (Gives w (.int .i64 (upTo' xs t : Nat))) := by
  obtain ⟨ao, ca, rfl, hc⟩ := hh.view
  rw [toI_len] at hc
  obtain ⟨W, hW, hb1, hb2, hl⟩ := bbox w (.slice ao (bAll xs).length ca) t
  have hh' : Held .i64 w (.slice ao (bAll xs).length ca) (toI (bAll xs)) := by rw [toI_len] at hh; exact hh
  have HS := Lib.hid (upto_s xs _ t w hh' hn W hb1 hb2 hl)
  have hlen := bAll_len xs
  have HC := Lib.hid hc
  have HB := Lib.hid hb1
  have HL := Lib.hid hl
  have b10 := hb1.cell 0 _ rfl
  clear hc hh hh' hb1 hb2 hl
  rw [toI_len]
  go_enter Try.func16, Try.ntmps16
  go_wp2_with fail
  rw [← hW]
  refine HS.out.mono ?_
  rintro e w1 ⟨i, hi, rfl, hlo, hhi, b1⟩
  have hfin := HL.out.trans (b1.mono HL.out.size)
  have b11 := (HB.out.below b1 HB.out.lt).cell 0 _ rfl
  clear hW b1
  cases i with
  | zero =>
    have HV := Lib.hid (up_zero (xs := xs) (t := t) hhi)
    clear hlo hhi
    go_wp2
    go_ret
    exact ⟨ret_eq (by rw [HV.out]; rfl), hfin⟩
  | succ m =>
    obtain ⟨b, off, rfl, hb, hcx⟩ := HC.out m (by omega)
    have hcx := (hfin.cell (p := ⟨b, off + m, none⟩) hb).trans hcx
    rw [toI_at (show m < (bAll xs).length by omega)] at hcx
    have HV := Lib.hid (up_hit hi (Nat.succ_pos m) hlo hhi)
    clear hlo hhi
    simp only [Nat.add_sub_cancel] at HV
    generalize (bAll xs)[m] = y at *
    have hw0 : ((m + 1 : Nat) : Int) - 1 = (m : Int) := by omega
    go_wp2
    go_ret
    exact ⟨ret_eq (by rw [HV.out]; rfl), hfin⟩
set_option maxRecDepth 100000 in
theorem ints_any (xs : List Int) (v : Value) (t : Int) (w : World) (hh : Held .i64 w v (toI (bAll xs))) (hn : xs.length ≤ 1000000) :
    Calls Try.prog 18 #[v, .int .i64 t] w (Found w (bAll xs).length (fun i => decide (t ≤ (toI (bAll xs)).getD i 0))) := by
  obtain ⟨ao, ca, rfl, _⟩ := hh.view
  obtain ⟨W, hW, hb1, hb2, hl⟩ := bbox w (.slice ao (bAll xs).length ca) t
  have hh' : Held .i64 w (.slice ao (bAll xs).length ca) (toI (bAll xs)) := by rw [toI_len] at hh; exact hh
  have HS := Lib.hid (ints_s xs _ t w hh' hn W hb1 hb2 hl)
  have HL := Lib.hid hl
  have b10 := hb1.cell 0 _ rfl
  clear hh hh' hb1 hb2 hl
  rw [toI_len]
  go_enter Try.func18, Try.ntmps18
  go_wp2_with fail
  rw [← hW]
  refine HS.out.mono ?_
  rintro e w1 ⟨i, hi, rfl, hlo, hhi, b1⟩
  have hfin := HL.out.trans (b1.mono HL.out.size)
  have HO := Lib.hid (And.intro hlo hhi)
  clear hlo hhi
  go_wp2
  go_ret
  exact ⟨i, hi, rfl, HO.out.1, HO.out.2, hfin⟩
set_option maxRecDepth 100000 in
theorem is_any (xs : List Int) (v : Value) (t : Int) (w : World) (hx : Held .i32 w v xs) (hn : xs.length ≤ 1000000) :
    Calls Try.prog 9 #[v, .int .i64 t] w (Gives w (.bool (isAt xs t))) := by
  have hlen := bAll_len xs
  go_enter Try.func9, Try.ntmps9
  go_wp2_with fail
  refine (borders_any _ xs _ hx hn).mono ?_
  rintro e w1 ⟨v1, rfl, hh, b1⟩
  obtain ⟨ao, ca, rfl, hc⟩ := hh.view
  rw [toI_len] at hc
  have HC := Lib.hid hc
  have HI := Lib.hid (ints_any xs _ t w1 hh hn)
  clear hc hh hx
  go_wp2_with fail
  refine HI.out.mono ?_
  rintro e w2 ⟨i, hi, rfl, hlo, hhi, b2⟩
  have hfin := b1.trans (b2.mono b1.size)
  rw [toI_len]
  by_cases hil : i < (bAll xs).length
  · obtain ⟨b, off, rfl, hb, hcx⟩ := HC.out i hil
    have hcx := (b2.cell (p := ⟨b, off + i, none⟩) hb).trans hcx
    have HV := Lib.hid (is_hit hil hlo hhi)
    clear hlo hhi HI
    generalize (toI (bAll xs)).getD i 0 = y at *
    go_wp2
    go_ret
    exact ⟨ret_eq (by rw [HV.out]; rfl), hfin⟩
  · obtain rfl : i = (bAll xs).length := by omega
    have HV := Lib.hid (is_past hlo)
    clear hlo hhi HI
    go_wp2
    go_ret
    exact ⟨ret_eq (by rw [HV.out]; rfl), hfin⟩
set_option maxRecDepth 100000 in
theorem prev_any (xs : List Int) (v : Value) (t : Int) (w : World) (hx : Held .i32 w v xs) (hn : xs.length ≤ 1000000) :
    Calls Try.prog 12 #[v, .int .i64 t] w (Gives w (.int .i64 (prevTo xs t : Nat))) := by
  have hlen := bAll_len xs
  go_enter Try.func12, Try.ntmps12
  go_wp2_with fail
  refine (borders_any _ xs _ hx hn).mono ?_
  rintro e w1 ⟨v1, rfl, hh, b1⟩
  obtain ⟨ao, ca, rfl, hc⟩ := hh.view
  rw [toI_len] at hc
  have HC := Lib.hid hc
  have HI := Lib.hid (ints_any xs _ t w1 hh hn)
  clear hc hh hx
  go_wp2_with fail
  refine HI.out.mono ?_
  rintro e w2 ⟨i, hi, rfl, hlo, hhi, b2⟩
  have hfin := b1.trans (b2.mono b1.size)
  rw [toI_len]
  cases i with
  | zero =>
    have HV := Lib.hid (prev_zero (xs := xs) (t := t) hhi)
    clear hlo hhi HI
    go_wp2
    go_ret
    exact ⟨ret_eq (by rw [HV.out]; rfl), hfin⟩
  | succ m =>
    obtain ⟨b, off, rfl, hb, hcx⟩ := HC.out m (by omega)
    have hcx := (b2.cell (p := ⟨b, off + m, none⟩) hb).trans hcx
    rw [toI_at (show m < (bAll xs).length by omega)] at hcx
    have HV := Lib.hid (prev_hit hi (Nat.succ_pos m) hlo hhi)
    clear hlo hhi HI
    simp only [Nat.add_sub_cancel] at HV
    generalize (bAll xs)[m] = y at *
    have hw0 : ((m + 1 : Nat) : Int) - 1 = (m : Int) := by omega
    go_wp2
    go_ret
    exact ⟨ret_eq (by rw [HV.out]; rfl), hfin⟩
set_option maxRecDepth 100000 in
theorem next_any (xs : List Int) (v : Value) (t : Int) (w : World) (hx : Held .i32 w v xs) (hn : xs.length ≤ 1000000) :
    Calls Try.prog 11 #[v, .int .i64 t] w (Gives w (.int .i64 (nextTo xs t : Nat))) := by
  go_enter Try.func11, Try.ntmps11
  go_wp2_with fail
  refine (borders_any _ xs _ hx hn).mono ?_
  rintro e w1 ⟨v1, rfl, hh, b1⟩
  go_wp2_with fail
  refine (above_any xs _ t _ hh hn).mono ?_
  rintro e w2 ⟨rfl, b2⟩
  have hfin := b1.trans (b2.mono b1.size)
  go_wp2
  go_ret
  exact ⟨(ret_eq (by first | rfl | (simp <;> omega))), hfin⟩
set_option maxRecDepth 100000 in
theorem snap_any (xs : List Int) (v : Value) (t : Int) (w : World) (hx : Held .i32 w v xs) (hn : xs.length ≤ 1000000) :
    Calls Try.prog 14 #[v, .int .i64 t] w (Gives w (.int .i64 (upTo' xs t : Nat))) := by
  go_enter Try.func14, Try.ntmps14
  go_wp2_with fail
  refine (borders_any _ xs _ hx hn).mono ?_
  rintro e w1 ⟨v1, rfl, hh, b1⟩
  go_wp2_with fail
  refine (upto_any xs _ t _ hh hn).mono ?_
  rintro e w2 ⟨rfl, b2⟩
  have hfin := b1.trans (b2.mono b1.size)
  go_wp2
  go_ret
  exact ⟨(ret_eq (by first | rfl | (simp <;> omega))), hfin⟩
def clampI (n : Nat) (t : Int) : Int := if t < 0 then 0 else if t ≤ (n : Int) - 1 then t else (n : Int) - 1
def fromA (xs : List Int) (t : Int) : Nat := if xs.length = 0 then 0 else upTo' xs (clampI xs.length t)
def toA (xs : List Int) (t : Int) : Nat := if xs.length = 0 then 0 else nextTo xs (clampI xs.length t)
set_option maxRecDepth 100000 in
theorem around_any (xs : List Int) (v : Value) (t : Int) (w : World) (hx : Held .i32 w v xs) (hn : xs.length ≤ 1000000) :
    Calls Try.prog 6 #[v, .int .i64 t] w (Gives w (.tuple #[.int .i64 (fromA xs t : Nat), .int .i64 (toA xs t : Nat)])) := by
  obtain ⟨ao, ca, rfl, _⟩ := hx.view
  have HX := Lib.hid hx
  clear hx
  rcases Nat.eq_zero_or_pos xs.length with h0 | hpos
  · have HF := Lib.hid (show fromA xs t = 0 by unfold fromA; rw [if_pos h0])
    have HT := Lib.hid (show toA xs t = 0 by unfold toA; rw [if_pos h0])
    rw [h0]
    go_enter Try.func6, Try.ntmps6
    go_wp2
    go_ret2
    exact ⟨by rw [HF.out, HT.out]; rfl, Below.refl _ _⟩
  · have HF := Lib.hid (show fromA xs t = upTo' xs (clampI xs.length t) by unfold fromA; rw [if_neg (by omega)])
    have HT := Lib.hid (show toA xs t = nextTo xs (clampI xs.length t) by unfold toA; rw [if_neg (by omega)])
    have hc : (t < 0 ∧ clampI xs.length t = 0) ∨ (0 ≤ t ∧ t ≤ (xs.length : Int) - 1 ∧ clampI xs.length t = t) ∨ (0 ≤ t ∧ (xs.length : Int) - 1 < t ∧ clampI xs.length t = (xs.length : Int) - 1) := by unfold clampI; omega
    rcases hc with ⟨h1, hs⟩ | ⟨h1, h2, hs⟩ | ⟨h1, h2, hs⟩
    all_goals
      rw [hs] at HF HT
      clear hs
      go_enter Try.func6, Try.ntmps6
      go_wp2_with fail
      refine (borders_any _ xs _ HX.out hn).mono ?_
      rintro e w1 ⟨v1, rfl, hh, b1⟩
      have HH := Lib.hid hh
      clear hh
      go_wp2_with fail
      refine (upto_any xs _ _ _ HH.out hn).mono ?_
      rintro e w2 ⟨rfl, b2⟩
      go_wp2_with fail
      refine (above_any xs _ _ _ (HH.out.below b2) hn).mono ?_
      rintro e w3 ⟨rfl, b3⟩
      have hfin := b1.trans ((b2.trans (b3.mono b2.size)).mono b1.size)
      go_wp2
      go_ret2
      exact ⟨by rw [HF.out, HT.out]; rfl, hfin⟩
end Go.Proofs.Ytbchdpgcjiepfaa
