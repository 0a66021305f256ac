/- The reference's Joins of layer 15. -/
import Derived.Test.YtkpmmkokfllafaaGreatSegR
namespace Go.Proofs.YtkpmmkokfllafaaGreat
open Go.RowKit Go.ChangeShapes Go.WideShapes
theorem jR_cases (xs : List Pr) (m : Nat) (j : Int) (hj : joinI (xs.getD m Pr.none).br (xs.getD (m + 1) Pr.none).br = j) :
    ((j == 1) = true ∧ jR xs (m + 1) = true) ∨ ((j == 1) = false ∧ conR xs (m + 1) = true ∧ jR xs (m + 1) = true) ∨ ((j == 1) = false ∧ conR xs (m + 1) = false ∧ picR xs (m + 1) = true ∧ jR xs (m + 1) = true)
    ∨ ((j == 1) = false ∧ conR xs (m + 1) = false ∧ picR xs (m + 1) = false ∧ (j != 2) = true ∧ jR xs (m + 1) = false)
    ∨ ((j == 1) = false ∧ conR xs (m + 1) = false ∧ picR xs (m + 1) = false ∧ (j != 2) = false ∧ ((xs.getD (m + 1) Pr.none).br != 6) = true ∧ jR xs (m + 1) = false)
    ∨ ((j == 1) = false ∧ conR xs (m + 1) = false ∧ picR xs (m + 1) = false ∧ (j != 2) = false ∧ ((xs.getD (m + 1) Pr.none).br != 6) = false ∧ jR xs (m + 1) = decide (nBack xs (m + 1) % 2 = 1)) := by
  unfold jR
  rw [if_neg (show ¬ m + 1 = 0 by omega), show m + 1 - 1 = m by omega, hj]
  generalize (xs.getD (m + 1) Pr.none).br = b at *
  generalize conR xs (m + 1) = c
  generalize picR xs (m + 1) = p
  by_cases h1 : j = 1
  · exact .inl ⟨by simpa using h1, by rw [if_pos h1]⟩
  have d1 : (j == 1) = false := by simpa using h1
  rw [if_neg h1]
  cases c with
  | true => exact .inr (.inl ⟨d1, rfl, rfl⟩)
  | false =>
    cases p with
    | true => exact .inr (.inr (.inl ⟨d1, rfl, rfl, rfl⟩))
    | false =>
      by_cases h2 : j = 2
      · have d2 : (j != 2) = false := by simpa using h2
        by_cases h6 : b = 6
        · exact .inr (.inr (.inr (.inr (.inr ⟨d1, rfl, rfl, d2, by simpa using h6, by simp [h2, h6]⟩))))
        · exact .inr (.inr (.inr (.inr (.inl ⟨d1, rfl, rfl, d2, by simpa using h6, by simp [h6]⟩))))
      · exact .inr (.inr (.inr (.inl ⟨d1, rfl, rfl, by simpa using h2, by simp [h2]⟩)))
theorem nBack_cases (xs : List Pr) (k : Nat) : (((xs.getD k Pr.none).br == 6) = true ∧ nBack xs (k + 1) = nBack xs k + 1) ∨ (((xs.getD k Pr.none).br == 6) = false ∧ nBack xs (k + 1) = 0) := by
  have hstep : nBack xs (k + 1) = (if (xs.getD k Pr.none).br = 6 then nBack xs k + 1 else 0) := rfl
  rw [hstep]
  generalize (xs.getD k Pr.none).br = b
  by_cases h : b = 6
  · exact .inl ⟨by simpa using h, by rw [if_pos h]⟩
  · exact .inr ⟨by simpa using h, by rw [if_neg h]⟩
theorem refjoin_gives (a b : Int) (w : World) : Calls Tryz.prog 86 #[.int .i64 a, .int .i64 b] w (Gives w (.int .i64 (joinI a b))) := refjoin_any a b w
set_option maxRecDepth 100000 in
theorem rjoins_zero (v : Value) (xs : List Pr) (w : World) (hh : HeldP w v xs) : Calls Tryz.prog 71 #[v, .int .i64 0] w (Gives w (.bool (jR xs 0))) := by
  obtain ⟨ao, cap, rfl, _⟩ := id hh
  rw [show jR xs 0 = false from rfl]
  go_enter Tryz.func71, Tryz.ntmps71
  go_wp2
  go_ret
  exact ⟨(ret_eq (by first | rfl | (simp <;> omega))), Below.refl _ _⟩
theorem rconj_succ (v : Value) (xs : List Pr) (m : Nat) (w : World) (hh : HeldP w v xs) (hi : m + 1 < xs.length) (hl : xs.length ≤ 1000000) :
    Calls Tryz.prog 87 #[v, .int .i64 ((m : Int) + 1)] w (Gives w (.bool (conR xs (m + 1)))) := rconj_any v xs (m + 1) w hh hi hl
theorem rpic_succ (v : Value) (xs : List Pr) (m : Nat) (w : World) (hh : HeldP w v xs) (hi : m + 1 < xs.length) (hl : xs.length ≤ 1000000) :
    Calls Tryz.prog 88 #[v, .int .i64 ((m : Int) + 1)] w (Gives w (.bool (picR xs (m + 1)))) := rpic_any v xs (m + 1) w hh hi hl
set_option maxRecDepth 100000 in
set_option maxHeartbeats 1000000 in
theorem rjoins_succ (v : Value) (xs : List Pr) (m : Nat) (w : World) (hh : HeldP w v xs) (hi : m + 1 < xs.length) (hl : xs.length ≤ 1000000) :
    Calls Tryz.prog 71 #[v, .int .i64 ((m : Int) + 1)] w (Gives w (.bool (jR xs (m + 1)))) := by
  obtain ⟨ao, cap, rfl, hc0⟩ := id hh
  clear hc0
  obtain ⟨_, hc⟩ := hh.at
  have HC := Lib.hid hc
  have HH := Lib.hid hh
  clear hc hh
  obtain ⟨b, off, rfl, hb, hx, _, _, _⟩ := HC.out m (by omega)
  obtain ⟨b', off', e', hb', hy, _, _, _⟩ := HC.out (m + 1) hi
  cases e'
  have hw0 : (m : Int) + 1 - 1 = (m : Int) := by omega
  obtain ⟨j, hj⟩ : ∃ j, joinI (xs.getD m Pr.none).br (xs.getD (m + 1) Pr.none).br = j := ⟨_, rfl⟩
  have hca := jR_cases xs m j hj
  obtain ⟨x, hx0⟩ : ∃ x, x = (xs.getD m Pr.none).br := ⟨_, rfl⟩
  obtain ⟨y, hy0⟩ : ∃ y, y = (xs.getD (m + 1) Pr.none).br := ⟨_, rfl⟩
  rw [← hy0] at hj hy hca
  rw [← hx0] at hj hx
  have HY0 := Lib.hid hy0
  have HCA := Lib.hid hca
  have HJ := Lib.hid hj
  clear hx0 hy0 hca
  have kx := ext_cell hx
  have ky := ext_cell hy
  have hlx : (m : Int) < (xs.length : Int) := by omega
  have hly : (m : Int) + 1 < (xs.length : Int) := by omega
  have HY := Lib.hid hy
  clear hx hy hj
  go_enter Tryz.func71, Tryz.ntmps71
  go_wp2_with fail
  refine wp_region_ext (by kernel_rfl) (by kernel_rfl) ?_
  repeat (go_big_quiet_step ((go_at_call 86; exact callx (refjoin_gives _ _ _))))
  refine wpQuiet_nil ?_
  intro _ hw'
  obtain ⟨u, hw''⟩ := hw'
  subst hw''
  rw [HJ.out]
  obtain ⟨W, hW⟩ : ∃ W, W = ext w u := ⟨_, rfl⟩
  rw [← hW]
  have hb0 : Below w.heap.size w W := by rw [hW]; exact u.ok
  have hh0 := HH.out.below hb0
  have hyW := (hb0.cell (p := ⟨b, off + (m + 1) * 4, none⟩) hb).trans HY.out
  clear hW kx ky
  rcases HCA.out with ⟨h1, hs⟩ | ⟨h1, h2, hs⟩ | ⟨h1, h2, h3, hs⟩ | ⟨h1, h2, h3, h4, hs⟩ | ⟨h1, h2, h3, h4, h5, hs⟩ | ⟨h1, h2, h3, h4, h5, hs⟩
  · have HS := Lib.hid hs
    clear hs HCA
    go_wp2
    go_ret
    exact ⟨ret_eq (by rw [HS.out]; rfl), hb0⟩
  · have HS := Lib.hid hs
    clear hs HCA
    go_wp2_with fail
    refine (rconj_succ _ xs m _ hh0 hi hl).mono ?_
    rintro e w2 ⟨rfl, b2⟩
    have hb2 := hb0.trans (b2.mono hb0.size)
    go_wp2
    go_ret
    exact ⟨ret_eq (by rw [HS.out]; rfl), hb2⟩
  · have HS := Lib.hid hs
    clear hs HCA
    go_wp2_with fail
    refine (rconj_succ _ xs m _ hh0 hi hl).mono ?_
    rintro e w2 ⟨rfl, b2⟩
    go_wp2_with fail
    refine (rpic_succ _ xs m _ (hh0.below b2) hi hl).mono ?_
    rintro e w3 ⟨rfl, b3⟩
    have hb3 := hb0.trans ((b2.trans (b3.mono b2.size)).mono hb0.size)
    go_wp2
    go_ret
    exact ⟨ret_eq (by rw [HS.out]; rfl), hb3⟩
  · have HS := Lib.hid hs
    clear hs HCA
    go_wp2_with fail
    refine (rconj_succ _ xs m _ hh0 hi hl).mono ?_
    rintro e w2 ⟨rfl, b2⟩
    go_wp2_with fail
    refine (rpic_succ _ xs m _ (hh0.below b2) hi hl).mono ?_
    rintro e w3 ⟨rfl, b3⟩
    have hb3 := hb0.trans ((b2.trans (b3.mono b2.size)).mono hb0.size)
    go_wp2
    go_ret
    exact ⟨ret_eq (by rw [HS.out]; rfl), hb3⟩
  · have HS := Lib.hid hs
    clear hs HCA
    go_wp2_with fail
    refine (rconj_succ _ xs m _ hh0 hi hl).mono ?_
    rintro e w2 ⟨rfl, b2⟩
    go_wp2_with fail
    refine (rpic_succ _ xs m _ (hh0.below b2) hi hl).mono ?_
    rintro e w3 ⟨rfl, b3⟩
    have hb3 := hb0.trans ((b2.trans (b3.mono b2.size)).mono hb0.size)
    have hy3 := ((b2.trans (b3.mono b2.size)).cell (p := ⟨b, off + (m + 1) * 4, none⟩) (Nat.lt_of_lt_of_le hb hb0.size)).trans hyW
    go_wp2
    go_ret
    exact ⟨ret_eq (by rw [HS.out]; rfl), hb3⟩
  · have HS := Lib.hid hs
    clear hs HCA
    go_wp2_with fail
    refine (rconj_succ _ xs m _ hh0 hi hl).mono ?_
    rintro e w2 ⟨rfl, b2⟩
    go_wp2_with fail
    refine (rpic_succ _ xs m _ (hh0.below b2) hi hl).mono ?_
    rintro e w3 ⟨rfl, b3⟩
    have hb3 := hb0.trans ((b2.trans (b3.mono b2.size)).mono hb0.size)
    have hy3 := ((b2.trans (b3.mono b2.size)).cell (p := ⟨b, off + (m + 1) * 4, none⟩) (Nat.lt_of_lt_of_le hb hb0.size)).trans hyW
    go_wp2
    go_loopw [6, 7] (fun nv kv wr => ∃ (k n : Nat), k ≤ m + 1 ∧ n ≤ m + 1 - k ∧ nv = .int .i64 n ∧ kv = .int .i64 ((k : Int) - 1) ∧ Go.RowKit.Hid (n + nBack xs k = nBack xs (m + 1)) ∧ Below w.heap.size w wr) (fun _ kv _ => (intOf kv + 1).toNat)
    case atStart => exact ⟨m + 1, 0, Nat.le_refl _, by omega, rfl, by congr 1; omega, Lib.hid (by omega), hb3⟩
    case round =>
      obtain ⟨k, n, hk, hn, rfl, rfl, HQ, hbw⟩ := hrel
      clear hyW hy3
      cases k with
      | zero =>
        have hq := HQ.out
        rw [show nBack xs 0 = 0 from rfl] at hq
        have hn2 : n = nBack xs (m + 1) := by omega
        have HN := Lib.hid hn2
        clear hq hn2
        go_wp2
        go_ret
        exact ⟨ret_eq (by rw [HS.out, ← HN.out]; simp; rw [Bool.eq_iff_iff]; simp; omega), hbw⟩
      | succ k =>
        obtain ⟨b', off', e', hb', hx, _⟩ := HC.out k (by omega)
        cases e'
        have hx := (hbw.cell (p := ⟨b, off + k * 4, none⟩) hb').trans hx
        have hw1 : (((k + 1 : Nat) : Int) - 1) = (k : Int) := by omega
        rw [hw1]
        clear hw1 hw0
        rcases nBack_cases xs k with ⟨h1, hs⟩ | ⟨h1, hs⟩
        · have HQ2 := Lib.hid (show n + 1 + nBack xs k = nBack xs (m + 1) by have := HQ.out; rw [hs] at this; omega)
          clear hs HQ
          generalize (xs.getD k Pr.none).br = c at *
          go_wp2
          go_roundw
          case rel => exact ⟨k, n + 1, by omega, by omega, by go_num, by simp, HQ2, hbw⟩
          case measure => simp [intOf] <;> omega
        · have HN := Lib.hid (show n = nBack xs (m + 1) by have := HQ.out; rw [hs] at this; omega)
          clear hs HQ
          generalize (xs.getD k Pr.none).br = c at *
          go_wp2
          go_ret
          exact ⟨ret_eq (by rw [HS.out, ← HN.out]; simp; rw [Bool.eq_iff_iff]; simp; omega), hbw⟩
theorem rjoins_any (v : Value) (xs : List Pr) (i : Nat) (w : World) (hh : HeldP w v xs) (hi : i < xs.length) (hl : xs.length ≤ 1000000) :
    Calls Tryz.prog 71 #[v, .int .i64 i] w (Gives w (.bool (jR xs i))) := by
  cases i with
  | zero => exact rjoins_zero v xs w hh
  | succ m => exact rjoins_succ v xs m w hh hi hl
end Go.Proofs.YtkpmmkokfllafaaGreat
