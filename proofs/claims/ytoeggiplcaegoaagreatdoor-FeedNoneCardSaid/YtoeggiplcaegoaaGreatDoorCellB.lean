/- cell.Right, and what it leans on. -/
import Derived.Test.YtoeggiplcaegoaaGreatDoorMg1
import Derived.Deep.QuietTactic
namespace Go.Proofs.YtoeggiplcaegoaaGreatDoor
open Go.RowKit Go.ChangeShapes Go.WideShapes
theorem noscalar_any (r : Int) (w : World) : Calls Tryz.prog 237 #[.int .i32 r] w fun e w' => e = .returned (.bool (!validB r)) ∧ w = w' := by
  go_enter Tryz.func237, Tryz.ntmps237
  go_wp2_with fail
  refine (valid_any _ _).mono ?_
  rintro e w' ⟨rfl, rfl⟩
  go_wp2
  go_ret
  exact ⟨rfl, rfl⟩
/-- The place of the first one that is no scalar value, or a negative number. -/
def Indexed (w : World) (b : Bool) (e : Ending) (w' : World) : Prop := ∃ n : Int, e = .returned (.int .i64 n) ∧ decide (0 ≤ n) = b ∧ Below w.heap.size w w'
def goodTo (t : List Int) (k : Nat) : Prop := ∀ j, j < k → validB (t.getD j 0) = true
theorem allValid_true {t : List Int} (h : goodTo t t.length) : allValid t = true := by
  unfold allValid
  rw [List.all_eq_true]
  intro x hx
  obtain ⟨i, hi, rfl⟩ := List.getElem_of_mem hx
  have := h i hi
  rwa [show t.getD i 0 = t[i] from by simp [List.getD, List.getElem?_eq_getElem hi]] at this
theorem allValid_false {t : List Int} {k : Nat} (hk : k < t.length) (h : validB (t.getD k 0) = false) : allValid t = false := by
  cases hc : allValid t with
  | false => rfl
  | true =>
    unfold allValid at hc
    rw [List.all_eq_true] at hc
    have := hc t[k] (List.getElem_mem hk)
    rw [show t.getD k 0 = t[k] from by simp [List.getD, List.getElem?_eq_getElem hk], this] at h
    cases h
set_option maxRecDepth 100000 in
theorem indexbad_any (v : Value) (t : List Int) (w : World) (ht : Held .i32 w v t) (hl : t.length ≤ 9223372036854775807) : Calls Tryz.prog 275 #[v, .func (.func 237) #[] #[]] w (Indexed w (!allValid t)) := by
  obtain ⟨ao, cap, rfl, hc⟩ := ht.view
  have HC := Lib.hid hc
  clear hc ht
  go_enter Tryz.func275, Tryz.ntmps275
  go_wp2
  go_loopw [8] (fun i wr => ∃ k : Nat, k ≤ t.length ∧ i = .int .i64 k ∧ goodTo t k ∧ wr = w) (fun i _ => t.length - (intOf i).toNat)
  case atStart => exact ⟨0, Nat.zero_le _, rfl, (fun j hj => by omega), (by first | rfl | trivial)⟩
  case round =>
    obtain ⟨k, hk, rfl, hg, hww⟩ := hrel
    subst hww
    have HG := Lib.hid hg
    clear hg
    by_cases hlt : k < t.length
    · obtain ⟨b, off, rfl, hb, hcx⟩ := HC.out k hlt
      obtain ⟨x, hx⟩ : ∃ x, x = t.getD k 0 := ⟨_, rfl⟩
      rw [← hx] at hcx
      have HX := Lib.hid hx
      clear hx
      cases hv : validB x with
      | true =>
        have HV := Lib.hid hv
        clear hv
        go_wp2_with fail
        refine (noscalar_any _ _).mono ?_
        rintro e w' ⟨rfl, rfl⟩
        rw [HV.out]
        go_wp2
        go_roundw
        case rel => exact ⟨k + 1, by omega, by go_num, (fun j hj => by
          rcases Nat.lt_or_ge j k with h | h
          · exact HG.out j h
          · obtain rfl : j = k := by omega
            rw [← HX.out]; exact HV.out), (by first | rfl | trivial)⟩
        case measure => simp [intOf]; omega
      | false =>
        have HV := Lib.hid hv
        clear hv
        go_wp2_with fail
        refine (noscalar_any _ _).mono ?_
        rintro e w' ⟨rfl, rfl⟩
        rw [HV.out]
        go_wp2
        go_ret
        exact ⟨k, rfl, by rw [allValid_false hlt (by rw [← HX.out]; exact HV.out)]; simp, Below.refl _ _⟩
    · obtain rfl : k = t.length := by omega
      go_wp2
      go_ret
      exact ⟨-1, rfl, by rw [allValid_true HG.out]; rfl, Below.refl _ _⟩
set_option maxRecDepth 100000 in
theorem containsbad_any (v : Value) (t : List Int) (w : World) (ht : Held .i32 w v t) (hl : t.length ≤ 9223372036854775807) : Calls Tryz.prog 236 #[v, .func (.func 237) #[] #[]] w (Gives w (.bool (!allValid t))) := by
  have HI := Lib.hid (indexbad_any v t w ht hl)
  obtain ⟨ao, cap, rfl, _⟩ := ht.view
  clear ht
  generalize (!allValid t) = q at HI ⊢
  go_enter Tryz.func236, Tryz.ntmps236
  go_wp2_with fail
  refine (HI.out).mono ?_
  rintro e w' ⟨n, rfl, hn, hb⟩
  cases q with
  | true =>
    have h0 : 0 ≤ n := by simpa using hn
    clear hn
    go_wp2
    go_ret
    exact ⟨(ret_eq (by first | rfl | (simp <;> omega))), hb⟩
  | false =>
    have h0 : n < 0 := by simpa using hn
    clear hn
    go_wp2
    go_ret
    exact ⟨(ret_eq (by first | rfl | (simp <;> omega))), hb⟩
theorem right_len {k : Int} {t : List Int} (h : (k == 0 || k == 3) = true) : rightB (k, t) = ((t.length : Int) == 0) := by
  unfold rightB
  simp only [h, if_true]
  rw [Bool.eq_iff_iff, beq_iff_eq, beq_iff_eq]
  omega
theorem right_text {k : Int} {t : List Int} (h : k = 1 ∨ k = 2) : rightB (k, t) = (decide (0 < t.length) && decide (t.length ≤ 16) && allValid t) := by
  unfold rightB
  rcases h with rfl | rfl <;> rfl
theorem right_none {k : Int} {t : List Int} (h0 : (k == 0) = false) (h1 : (k == 1) = false) (h2 : (k == 2) = false) (h3 : (k == 3) = false) : rightB (k, t) = false := by
  unfold rightB
  simp only [h0, h1, h2, h3]
  rfl
set_option maxRecDepth 100000 in
theorem right_any (k : Int) (tv : Value) (t : List Int) (w : World) (ht : Held .i32 w tv t) (hl : t.length ≤ 9223372036854775807) : Calls Tryz.prog 192 #[.agg #[.int .i64 k, tv]] w (Gives w (.bool (rightB (k, t)))) := by
  have HT := Lib.hid ht
  obtain ⟨ao, cap, rfl, _⟩ := ht.view
  clear ht
  have HB := Lib.hid ((Below.refl w.heap.size w).alloc (Nat.le_refl _) (.cells #[.int .i64 k, .slice ao t.length cap] 147))
  by_cases h0 : k = 0
  · subst h0
    have HR := Lib.hid (right_len (k := 0) (t := t) rfl)
    go_enter Tryz.func192, Tryz.ntmps192
    go_wp2
    go_ret
    exact ⟨ret_eq (by rw [HR.out]; rfl), HB.out⟩
  by_cases h3 : k = 3
  · subst h3
    have HR := Lib.hid (right_len (k := 3) (t := t) rfl)
    go_enter Tryz.func192, Tryz.ntmps192
    go_wp2
    go_ret
    exact ⟨ret_eq (by rw [HR.out]; rfl), HB.out⟩
  by_cases h12 : k = 1 ∨ k = 2
  · have HR := Lib.hid (right_text (t := t) h12)
    have HCB := Lib.hid (containsbad_any _ t _ (HT.out.below HB.out) hl)
    by_cases hz : 0 < t.length
    · by_cases h16 : t.length ≤ 16
      · generalize allValid t = q at HR HCB
        have HQ := Lib.hid (show rightB (k, t) = q by rw [HR.out, decide_eq_true hz, decide_eq_true h16]; rfl)
        clear HR
        rcases h12 with rfl | rfl
        all_goals
          go_enter Tryz.func192, Tryz.ntmps192
          go_wp2_with fail
          refine (HCB.out).mono ?_
          rintro e w' ⟨rfl, hb⟩
          have hb2 := HB.out.trans (hb.mono HB.out.size)
          go_wp2
          go_ret
          exact ⟨ret_eq (by rw [HQ.out]; cases q <;> rfl), hb2⟩
      · have HQ := Lib.hid (show rightB (k, t) = false by rw [HR.out, decide_eq_false h16]; simp)
        clear HR HCB
        rcases h12 with rfl | rfl
        all_goals
          go_enter Tryz.func192, Tryz.ntmps192
          go_wp2
          go_ret
          exact ⟨ret_eq (by rw [HQ.out]; try rfl), HB.out⟩
    · have HQ := Lib.hid (show rightB (k, t) = false by rw [HR.out, decide_eq_false hz]; rfl)
      have hz0 : t.length = 0 := by omega
      obtain rfl : t = [] := List.eq_nil_of_length_eq_zero hz0
      simp only [List.length_nil] at HB ⊢
      clear HR HCB hz hz0
      rcases h12 with rfl | rfl
      all_goals
        go_enter Tryz.func192, Tryz.ntmps192
        go_wp2
        go_ret
        exact ⟨ret_eq (by rw [HQ.out]; try rfl), HB.out⟩
  · have b0 : (k == 0) = false := by simpa using h0
    have b1 : (k == 1) = false := by simp; omega
    have b2 : (k == 2) = false := by simp; omega
    have b3 : (k == 3) = false := by simpa using h3
    have HQ := Lib.hid (right_none (t := t) b0 b1 b2 b3)
    clear h0 h3 h12
    go_enter Tryz.func192, Tryz.ntmps192
    go_wp2
    go_ret
    exact ⟨ret_eq (by rw [HQ.out]; try rfl), HB.out⟩
end Go.Proofs.YtoeggiplcaegoaaGreatDoor
