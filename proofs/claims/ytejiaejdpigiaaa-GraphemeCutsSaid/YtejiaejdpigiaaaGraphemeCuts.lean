/- GraphemeCuts (16.2) answers true at every two rows of numbers, and turns nothing. No condition. -/
import Derived.Test.YtejiaejdpigiaaaMg7
import Derived.Test.YtejiaejdpigiaaaGraS
import Derived.Test.YtejiaejdpigiaaaMg1
import Derived.Test.YtejiaejdpigiaaaRows
import Derived.ProofKit
namespace Go.Proofs.Ytejiaejdpigiaaa.lawGraphemeCuts
open Go.ChangeShapes Go.WideShapes Go.ChangeAt Go.RowKit
theorem cluA_few (xs : List Int) : (cluA xs).length ≤ xs.length := by
  rw [cluA_len]
  exact startB_len _ _
set_option maxRecDepth 100000 in
set_option maxHeartbeats 3000000 in
theorem walkN (W : World) (v u : Value) (A Bs : List Int) (hv : HeldE (intE .i32) (fun b => b < W.heap.size) W v A) (hu : HeldE (intE .i32) (fun b => b < W.heap.size) W u Bs) (hrA : bounds32 A) (hrB : bounds32 Bs) (ha : A.length ≤ 300) (hb : Bs.length ≤ 300) (h0 : 0 < Bs.length) : Calls Try.prog 5 #[v, u] W (Yes W) := by
  obtain ⟨ao, ca, rfl⟩ := hv.len
  obtain ⟨bo, cb, rfl⟩ := hu.len
  obtain ⟨na, hna⟩ : ∃ na, na = A.length := ⟨_, rfl⟩
  obtain ⟨nb, hnb⟩ : ∃ nb, nb = Bs.length := ⟨_, rfl⟩
  have HNA := Lib.hid hna
  have HNB := Lib.hid hnb
  have HA := Lib.hid (show ∀ w', Below W.heap.size W w' → HeldE (intE .i32) (fun b => b < W.heap.size) w' (.slice ao na ca) A from fun w' b => by rw [hna]; exact hv.below b)
  have HBE := Lib.hid (show ∀ w', Below W.heap.size W w' → HeldE (intE .i32) (fun b => b < W.heap.size) w' (.slice bo nb cb) Bs from fun w' b => by rw [hnb]; exact hu.below b)
  obtain ⟨r, hr⟩ : ∃ r, r = Bs.getD 0 0 := ⟨_, rfl⟩
  obtain ⟨t, hbt⟩ : ∃ t, Bs = r :: t := by
    cases Bs with
    | nil => exact absurd h0 (by decide)
    | cons x t => exact ⟨t, by rw [hr]; rfl⟩
  have hr0 := hrB 0 h0
  rw [← hr] at hr0
  have hRO := fun w => rof09_any r w hr0.1 hr0.2
  rw [gcb_ref r] at hRO
  have HRO := Lib.hid hRO
  obtain ⟨q, hq⟩ : ∃ q, q = A.getD (A.length - 1) 0 := ⟨_, rfl⟩
  have HQO := Lib.hid (show 0 < na → ∀ w, Calls Try.prog 22 #[.int .i32 q] w (Gives w (.int .i64 (gcbI q))) from fun h w => by
    have h9 := hrA (A.length - 1) (by omega)
    rw [← hq] at h9
    have := rof09_any q w h9.1 h9.2
    rw [gcb_ref q] at this
    exact this)
  obtain ⟨c, hc⟩ : ∃ c, c = gcbI r := ⟨_, rfl⟩
  obtain ⟨d, hd⟩ : ∃ d, d = gcbI q := ⟨_, rfl⟩
  rw [← hc] at HRO
  rw [← hd] at HQO
  have HCUT := Lib.hid (show (1 ≤ c ∧ c ≤ 3) ∧ ¬ (c = 2 ∧ 0 < na ∧ d = 1) → cluA (A ++ Bs) = cluA A ++ cluA Bs from fun h => cluA_cut hbt (by rw [← hc]; exact h.1) (by rw [← hc, ← hna, hna, ← hq, ← hd, ← hna]; exact h.2))
  have HFA := Lib.hid (cluA_few A)
  have HFB := Lib.hid (cluA_few Bs)
  have HSB := Lib.hid (show ∀ w', Below W.heap.size W w' → ∃ b off, bo = some ⟨b, off, none⟩ ∧ w'.cell? ⟨b, off, none⟩ = some (.int .i32 r) from fun w' h => by
    obtain ⟨b, off, e, _, h9⟩ := (HBE.out w' h).ints.spots 0 h0
    exact ⟨b, off, e, by rw [hr]; exact h9⟩)
  have HSA := Lib.hid (show 0 < na → ∀ w', Below W.heap.size W w' → ∃ b off, ao = some ⟨b, off, none⟩ ∧ w'.cell? ⟨b, off + (na - 1), none⟩ = some (.int .i32 q) from fun hp w' h => by
    obtain ⟨b, off, e, _, h9⟩ := (HA.out w' h).ints.spots (na - 1) (by omega)
    refine ⟨b, off, e, ?_⟩
    rw [h9, hq, hna])
  have hca := hv.spots.2.1
  have hcb := hu.spots.2.1
  rw [← hna] at ha hca ⊢
  rw [← hnb] at hb h0 hcb ⊢
  have d1 : decide ((300 : Int) < na) = false := by rw [decide_eq_false_iff_not]; omega
  have d1n : decide (300 < na) = false := by rw [decide_eq_false_iff_not]; omega
  have d2 : decide ((300 : Int) < nb) = false := by rw [decide_eq_false_iff_not]; omega
  have d2n : decide (300 < nb) = false := by rw [decide_eq_false_iff_not]; omega
  have d3 : ((nb : Int) == 0) = false := by rw [beq_eq_false_iff_ne]; omega
  clear hv hu hrA hrB hna hnb hr hbt hr0 hRO hq hc hd
  go_enter Try.func5, Try.ntmps5
  go_wp2_with fail
  refine (works16_any _).mono ?_
  rintro e w1 ⟨rfl, b1⟩
  obtain ⟨bb, ob, rfl, c0⟩ := HSB.out w1 b1
  have B1 := Lib.hid b1
  clear b1
  go_wp2_with fail
  refine (HRO.out w1).mono ?_
  rintro e W1 ⟨rfl, b2⟩
  have B := Lib.hid (B1.out.trans (b2.mono B1.out.size))
  clear b2 c0 d1 d1n d2 d2n d3 B1 HSB
  by_cases hc1 : c < 1
  · have t1 : decide (c < 1) = true := by rw [decide_eq_true_eq]; exact hc1
    clear hc1
    go_wp2
    go_ret
    exact ⟨(ret_eq (by first | rfl | (simp <;> omega))), B.out⟩
  have t1 : decide (c < 1) = false := by rw [decide_eq_false_iff_not]; exact hc1
  by_cases hc3 : 3 < c
  · have t2 : decide (3 < c) = true := by rw [decide_eq_true_eq]; exact hc3
    clear hc1 hc3
    go_wp2
    go_ret
    exact ⟨(ret_eq (by first | rfl | (simp <;> omega))), B.out⟩
  have t2 : decide (3 < c) = false := by rw [decide_eq_false_iff_not]; exact hc3
  by_cases hc2 : c = 2
  · have t3 : (c == 2) = true := by rw [beq_iff_eq]; exact hc2
    by_cases hn : 0 < na
    · have t4 : decide ((0 : Int) < na) = true := by rw [decide_eq_true_eq]; omega
      have HQ := Lib.hid (HQO.out hn)
      obtain ⟨ba, oa, rfl, c1⟩ := HSA.out hn W1 B.out
      have hw1 : IntKind.i64.wrap ((na : Int) - 1) = ((na - 1 : Nat) : Int) := by rw [IntKind.wrap_i64]; omega
      have hw2 : (na : Int) - 1 = ((na - 1 : Nat) : Int) := by omega
      have hlt1 : na - 1 < na := by omega
      go_wp2_with fail
      refine (HQ.out W1).mono ?_
      rintro e w2 ⟨rfl, b2⟩
      replace B := Lib.hid (B.out.trans (b2.mono B.out.size))
      clear b2 c1 hw1 hw2 hlt1
      obtain ⟨W1', hW1'⟩ : ∃ W9, W9 = w2 := ⟨_, rfl⟩
      rw [← hW1'] at B ⊢
      clear hW1'
      by_cases hd1 : d = 1
      · have t5 : (d == 1) = true := by rw [beq_iff_eq]; exact hd1
        clear hd1 hn hc1 hc2 hc3
        go_wp2
        go_ret
        exact ⟨(ret_eq (by first | rfl | (simp <;> omega))), B.out⟩
      · have t5 : (d == 1) = false := by rw [beq_eq_false_iff_ne]; exact hd1
        have HC : (1 ≤ c ∧ c ≤ 3) ∧ ¬ (c = 2 ∧ 0 < na ∧ d = 1) := ⟨by omega, fun h => hd1 h.2.2⟩
        clear hd1 hn hc1 hc2 hc3
        have hb1 := (Below.refl W1'.heap.size W1').alloc (Nat.le_refl _) (.cells #[] 21)
        have ho1 : OwnE (intE .i32) (fun _ => True) (W1'.alloc (.cells #[] 21)) W1'.heap.size 21 (.slice (some ⟨W1'.heap.size, 0, none⟩) 0 0) [] := OwnE.empty (World.ownsRow_lit W1' #[] 0 (Nat.le_refl _) (by decide) rfl)
        have HO1 := Lib.hid ho1
        have HBX := Lib.hid (B.out.trans (hb1.mono B.out.size))
        have HU1 := Lib.hid (show HeldE (intE .i32) (fun b9 => True ∧ (Value.slice (some ⟨W1'.heap.size, 0, none⟩) 0 0).ownBlock ≠ some b9) (W1'.alloc (.cells #[] 21)) _ A from (HA.out _ HBX.out).zone (fun b9 _ h => ⟨trivial, fun e => by have h9 := (HO1.out.lt _ e).1; have := B.out.size; omega⟩))
        have HZ := Lib.hid hb1.size
        clear ho1 hb1
        go_wp2_with (at_builtin; refine wpList_append_e (E := intE .i32) (Z := fun _ => True) rfl (.tmp 54) (.tmp 55) 22 rfl (.int .i32 0) 4 Try.underlying22 info_ru rfl (by decide) rfl rfl HO1.out HU1.out (by rw [← HNA.out]; simp only [List.length_nil]; omega) (by rw [← HNA.out]; simp only [List.length_nil]; omega) HZ.out ?_)
        intro v2 w2 ho2 b2 _ _
        try rw [List.nil_append] at ho2
        have HO2 := Lib.hid ho2
        have HB2 := Lib.hid (HBX.out.trans (b2.mono B.out.size))
        have HZ2 := Lib.hid (Nat.le_trans HZ.out b2.size)
        have HU2 := Lib.hid (show HeldE (intE .i32) (fun b9 => True ∧ v2.ownBlock ≠ some b9) w2 _ Bs from (HBE.out _ HB2.out).zone (fun b9 _ h => ⟨trivial, fun e => by have h9 := (ho2.lt _ e).1; have := B.out.size; omega⟩))
        clear ho2 b2 HO1 HU1
        go_wp2_with (at_builtin; refine wpList_append_e (E := intE .i32) (Z := fun _ => True) rfl (.tmp 56) (.tmp 57) 22 rfl (.int .i32 0) 4 Try.underlying22 info_ru rfl (by decide) rfl rfl HO2.out HU2.out (by rw [← HNA.out, ← HNB.out]; omega) (by rw [← HNA.out, ← HNB.out]; omega) HZ2.out ?_)
        intro v3 w3 ho3 b3 _ _
        have hh3 := (ho3.held (Z := fun _ => True) (fun _ _ _ => trivial)).ints
        have HB3 := Lib.hid (HB2.out.trans (b3.mono B.out.size))
        have HC3 := Lib.hid (gclus_any _ _ w3 hh3 (by rw [List.length_append, ← HNA.out, ← HNB.out]; omega))
        rw [HCUT.out HC] at HC3
        clear ho3 b3 hh3 HO2 HU2
        go_wp2_with fail
        refine HC3.out.mono ?_
        rintro e w4 ⟨v4, rfl, ho4, b4⟩
        have H4 := Lib.hid (show HeldE rowE (fun b => w3.heap.size ≤ b ∧ b < w4.heap.size) w4 v4 (cluA A ++ cluA Bs) from (ho4.held (Z := fun b => w3.heap.size ≤ b) (fun b h _ => h)).zoned (fun b hb h => ⟨h, hb⟩))
        have B4 := Lib.hid (HB3.out.trans (b4.mono HB3.out.size))
        have hc5 := gclus_any _ A w4 (HA.out _ B4.out).ints (by rw [← HNA.out]; omega)
        clear ho4 b4 HC3
        go_wp2_with fail
        refine hc5.mono ?_
        rintro e w5 ⟨v5, rfl, ho5, b5⟩
        have HO5 := Lib.hid ho5
        replace H4 := Lib.hid (H4.out.below b5)
        have B5 := Lib.hid (B4.out.trans (b5.mono B4.out.size))
        have HS5 := Lib.hid b5.size
        have hc6 := gclus_any _ Bs w5 (HBE.out _ B5.out).ints (by rw [← HNB.out]; omega)
        clear ho5 b5 hc5
        go_wp2_with fail
        refine hc6.mono ?_
        rintro e w6 ⟨v6, rfl, ho6, b6⟩
        have HO6 := Lib.hid (HO5.out.below b6)
        replace H4 := Lib.hid (H4.out.below b6)
        have B6 := Lib.hid (B5.out.trans (b6.mono B5.out.size))
        have hlo5 := HO5.out.lt
        have HS45 := Lib.hid (show w4.heap.size ≤ w5.heap.size ∧ w4.heap.size ≤ w6.heap.size from ⟨HS5.out, Nat.le_trans HS5.out b6.size⟩)
        have HU6 := Lib.hid (show HeldE rowE (fun b9 => w4.heap.size ≤ b9 ∧ v5.ownBlock ≠ some b9) w6 v6 (cluA Bs) from (ho6.held (Z := fun b => w5.heap.size ≤ b) (fun b h _ => h)).zoned (fun b9 _ h => ⟨Nat.le_trans HS45.out.1 h, fun e => by have := (hlo5 _ e).2; omega⟩))
        have H4Z := Lib.hid (H4.out.zoned (Y := fun b => b < w4.heap.size) (fun b _ h => h.2))
        clear ho6 b6 hc6 hlo5 HO5
        go_wp2_with (at_builtin; refine wpList_append_e (E := rowE) (Z := fun b => w4.heap.size ≤ b) rfl (.tmp 62) (.tmp 64) 27 rfl (.slice none 0 0) 24 Try.underlying27 info_rs rfl (by decide) rfl rfl HO6.out HU6.out (by have := HFA.out; have := HFB.out; rw [← HNA.out] at *; rw [← HNB.out] at *; omega) (by have := HFA.out; have := HFB.out; rw [← HNA.out] at *; rw [← HNB.out] at *; omega) HS45.out.2 ?_)
        intro v7 w7 ho7 b7 _ _
        have HL7 := Lib.hid (ho7.held (Z := fun b => w4.heap.size ≤ b) (fun b h _ => h))
        have H47 := Lib.hid (H4Z.out.kept (KeepZ.below b7))
        have B7 := Lib.hid (B6.out.trans (b7.mono B4.out.size))
        clear ho7 b7 HO6 HU6
        go_wp2_with fail
        refine (rsame16_self _ _ v4 v7 _ w7 H47.out HL7.out).mono ?_
        rintro e w8 ⟨rfl, b8⟩
        have B8 := Lib.hid (B7.out.trans (b8.mono B7.out.size))
        clear b8
        go_wp2
        go_ret
        exact ⟨(ret_eq (by first | rfl | (simp <;> omega))), B8.out⟩

    · have t4 : decide ((0 : Int) < na) = false := by rw [decide_eq_false_iff_not]; omega
      have t4n : decide (0 < na) = false := by rw [decide_eq_false_iff_not]; omega
      have HC : (1 ≤ c ∧ c ≤ 3) ∧ ¬ (c = 2 ∧ 0 < na ∧ d = 1) := ⟨by omega, fun h => hn h.2.1⟩
      clear hn hc1 hc2 hc3
      have hb1 := (Below.refl W1.heap.size W1).alloc (Nat.le_refl _) (.cells #[] 21)
      have ho1 : OwnE (intE .i32) (fun _ => True) (W1.alloc (.cells #[] 21)) W1.heap.size 21 (.slice (some ⟨W1.heap.size, 0, none⟩) 0 0) [] := OwnE.empty (World.ownsRow_lit W1 #[] 0 (Nat.le_refl _) (by decide) rfl)
      have HO1 := Lib.hid ho1
      have HBX := Lib.hid (B.out.trans (hb1.mono B.out.size))
      have HU1 := Lib.hid (show HeldE (intE .i32) (fun b9 => True ∧ (Value.slice (some ⟨W1.heap.size, 0, none⟩) 0 0).ownBlock ≠ some b9) (W1.alloc (.cells #[] 21)) _ A from (HA.out _ HBX.out).zone (fun b9 _ h => ⟨trivial, fun e => by have h9 := (HO1.out.lt _ e).1; have := B.out.size; omega⟩))
      have HZ := Lib.hid hb1.size
      clear ho1 hb1
      go_wp2_with (at_builtin; refine wpList_append_e (E := intE .i32) (Z := fun _ => True) rfl (.tmp 54) (.tmp 55) 22 rfl (.int .i32 0) 4 Try.underlying22 info_ru rfl (by decide) rfl rfl HO1.out HU1.out (by rw [← HNA.out]; simp only [List.length_nil]; omega) (by rw [← HNA.out]; simp only [List.length_nil]; omega) HZ.out ?_)
      intro v2 w2 ho2 b2 _ _
      try rw [List.nil_append] at ho2
      have HO2 := Lib.hid ho2
      have HB2 := Lib.hid (HBX.out.trans (b2.mono B.out.size))
      have HZ2 := Lib.hid (Nat.le_trans HZ.out b2.size)
      have HU2 := Lib.hid (show HeldE (intE .i32) (fun b9 => True ∧ v2.ownBlock ≠ some b9) w2 _ Bs from (HBE.out _ HB2.out).zone (fun b9 _ h => ⟨trivial, fun e => by have h9 := (ho2.lt _ e).1; have := B.out.size; omega⟩))
      clear ho2 b2 HO1 HU1
      go_wp2_with (at_builtin; refine wpList_append_e (E := intE .i32) (Z := fun _ => True) rfl (.tmp 56) (.tmp 57) 22 rfl (.int .i32 0) 4 Try.underlying22 info_ru rfl (by decide) rfl rfl HO2.out HU2.out (by rw [← HNA.out, ← HNB.out]; omega) (by rw [← HNA.out, ← HNB.out]; omega) HZ2.out ?_)
      intro v3 w3 ho3 b3 _ _
      have hh3 := (ho3.held (Z := fun _ => True) (fun _ _ _ => trivial)).ints
      have HB3 := Lib.hid (HB2.out.trans (b3.mono B.out.size))
      have HC3 := Lib.hid (gclus_any _ _ w3 hh3 (by rw [List.length_append, ← HNA.out, ← HNB.out]; omega))
      rw [HCUT.out HC] at HC3
      clear ho3 b3 hh3 HO2 HU2
      go_wp2_with fail
      refine HC3.out.mono ?_
      rintro e w4 ⟨v4, rfl, ho4, b4⟩
      have H4 := Lib.hid (show HeldE rowE (fun b => w3.heap.size ≤ b ∧ b < w4.heap.size) w4 v4 (cluA A ++ cluA Bs) from (ho4.held (Z := fun b => w3.heap.size ≤ b) (fun b h _ => h)).zoned (fun b hb h => ⟨h, hb⟩))
      have B4 := Lib.hid (HB3.out.trans (b4.mono HB3.out.size))
      have hc5 := gclus_any _ A w4 (HA.out _ B4.out).ints (by rw [← HNA.out]; omega)
      clear ho4 b4 HC3
      go_wp2_with fail
      refine hc5.mono ?_
      rintro e w5 ⟨v5, rfl, ho5, b5⟩
      have HO5 := Lib.hid ho5
      replace H4 := Lib.hid (H4.out.below b5)
      have B5 := Lib.hid (B4.out.trans (b5.mono B4.out.size))
      have HS5 := Lib.hid b5.size
      have hc6 := gclus_any _ Bs w5 (HBE.out _ B5.out).ints (by rw [← HNB.out]; omega)
      clear ho5 b5 hc5
      go_wp2_with fail
      refine hc6.mono ?_
      rintro e w6 ⟨v6, rfl, ho6, b6⟩
      have HO6 := Lib.hid (HO5.out.below b6)
      replace H4 := Lib.hid (H4.out.below b6)
      have B6 := Lib.hid (B5.out.trans (b6.mono B5.out.size))
      have hlo5 := HO5.out.lt
      have HS45 := Lib.hid (show w4.heap.size ≤ w5.heap.size ∧ w4.heap.size ≤ w6.heap.size from ⟨HS5.out, Nat.le_trans HS5.out b6.size⟩)
      have HU6 := Lib.hid (show HeldE rowE (fun b9 => w4.heap.size ≤ b9 ∧ v5.ownBlock ≠ some b9) w6 v6 (cluA Bs) from (ho6.held (Z := fun b => w5.heap.size ≤ b) (fun b h _ => h)).zoned (fun b9 _ h => ⟨Nat.le_trans HS45.out.1 h, fun e => by have := (hlo5 _ e).2; omega⟩))
      have H4Z := Lib.hid (H4.out.zoned (Y := fun b => b < w4.heap.size) (fun b _ h => h.2))
      clear ho6 b6 hc6 hlo5 HO5
      go_wp2_with (at_builtin; refine wpList_append_e (E := rowE) (Z := fun b => w4.heap.size ≤ b) rfl (.tmp 62) (.tmp 64) 27 rfl (.slice none 0 0) 24 Try.underlying27 info_rs rfl (by decide) rfl rfl HO6.out HU6.out (by have := HFA.out; have := HFB.out; rw [← HNA.out] at *; rw [← HNB.out] at *; omega) (by have := HFA.out; have := HFB.out; rw [← HNA.out] at *; rw [← HNB.out] at *; omega) HS45.out.2 ?_)
      intro v7 w7 ho7 b7 _ _
      have HL7 := Lib.hid (ho7.held (Z := fun b => w4.heap.size ≤ b) (fun b h _ => h))
      have H47 := Lib.hid (H4Z.out.kept (KeepZ.below b7))
      have B7 := Lib.hid (B6.out.trans (b7.mono B4.out.size))
      clear ho7 b7 HO6 HU6
      go_wp2_with fail
      refine (rsame16_self _ _ v4 v7 _ w7 H47.out HL7.out).mono ?_
      rintro e w8 ⟨rfl, b8⟩
      have B8 := Lib.hid (B7.out.trans (b8.mono B7.out.size))
      clear b8
      go_wp2
      go_ret
      exact ⟨(ret_eq (by first | rfl | (simp <;> omega))), B8.out⟩

  · have t3 : (c == 2) = false := by rw [beq_eq_false_iff_ne]; exact hc2
    have HC : (1 ≤ c ∧ c ≤ 3) ∧ ¬ (c = 2 ∧ 0 < na ∧ d = 1) := ⟨by omega, fun h => hc2 h.1⟩
    clear hc1 hc2 hc3
    have hb1 := (Below.refl W1.heap.size W1).alloc (Nat.le_refl _) (.cells #[] 21)
    have ho1 : OwnE (intE .i32) (fun _ => True) (W1.alloc (.cells #[] 21)) W1.heap.size 21 (.slice (some ⟨W1.heap.size, 0, none⟩) 0 0) [] := OwnE.empty (World.ownsRow_lit W1 #[] 0 (Nat.le_refl _) (by decide) rfl)
    have HO1 := Lib.hid ho1
    have HBX := Lib.hid (B.out.trans (hb1.mono B.out.size))
    have HU1 := Lib.hid (show HeldE (intE .i32) (fun b9 => True ∧ (Value.slice (some ⟨W1.heap.size, 0, none⟩) 0 0).ownBlock ≠ some b9) (W1.alloc (.cells #[] 21)) _ A from (HA.out _ HBX.out).zone (fun b9 _ h => ⟨trivial, fun e => by have h9 := (HO1.out.lt _ e).1; have := B.out.size; omega⟩))
    have HZ := Lib.hid hb1.size
    clear ho1 hb1
    go_wp2_with (at_builtin; refine wpList_append_e (E := intE .i32) (Z := fun _ => True) rfl (.tmp 54) (.tmp 55) 22 rfl (.int .i32 0) 4 Try.underlying22 info_ru rfl (by decide) rfl rfl HO1.out HU1.out (by rw [← HNA.out]; simp only [List.length_nil]; omega) (by rw [← HNA.out]; simp only [List.length_nil]; omega) HZ.out ?_)
    intro v2 w2 ho2 b2 _ _
    try rw [List.nil_append] at ho2
    have HO2 := Lib.hid ho2
    have HB2 := Lib.hid (HBX.out.trans (b2.mono B.out.size))
    have HZ2 := Lib.hid (Nat.le_trans HZ.out b2.size)
    have HU2 := Lib.hid (show HeldE (intE .i32) (fun b9 => True ∧ v2.ownBlock ≠ some b9) w2 _ Bs from (HBE.out _ HB2.out).zone (fun b9 _ h => ⟨trivial, fun e => by have h9 := (ho2.lt _ e).1; have := B.out.size; omega⟩))
    clear ho2 b2 HO1 HU1
    go_wp2_with (at_builtin; refine wpList_append_e (E := intE .i32) (Z := fun _ => True) rfl (.tmp 56) (.tmp 57) 22 rfl (.int .i32 0) 4 Try.underlying22 info_ru rfl (by decide) rfl rfl HO2.out HU2.out (by rw [← HNA.out, ← HNB.out]; omega) (by rw [← HNA.out, ← HNB.out]; omega) HZ2.out ?_)
    intro v3 w3 ho3 b3 _ _
    have hh3 := (ho3.held (Z := fun _ => True) (fun _ _ _ => trivial)).ints
    have HB3 := Lib.hid (HB2.out.trans (b3.mono B.out.size))
    have HC3 := Lib.hid (gclus_any _ _ w3 hh3 (by rw [List.length_append, ← HNA.out, ← HNB.out]; omega))
    rw [HCUT.out HC] at HC3
    clear ho3 b3 hh3 HO2 HU2
    go_wp2_with fail
    refine HC3.out.mono ?_
    rintro e w4 ⟨v4, rfl, ho4, b4⟩
    have H4 := Lib.hid (show HeldE rowE (fun b => w3.heap.size ≤ b ∧ b < w4.heap.size) w4 v4 (cluA A ++ cluA Bs) from (ho4.held (Z := fun b => w3.heap.size ≤ b) (fun b h _ => h)).zoned (fun b hb h => ⟨h, hb⟩))
    have B4 := Lib.hid (HB3.out.trans (b4.mono HB3.out.size))
    have hc5 := gclus_any _ A w4 (HA.out _ B4.out).ints (by rw [← HNA.out]; omega)
    clear ho4 b4 HC3
    go_wp2_with fail
    refine hc5.mono ?_
    rintro e w5 ⟨v5, rfl, ho5, b5⟩
    have HO5 := Lib.hid ho5
    replace H4 := Lib.hid (H4.out.below b5)
    have B5 := Lib.hid (B4.out.trans (b5.mono B4.out.size))
    have HS5 := Lib.hid b5.size
    have hc6 := gclus_any _ Bs w5 (HBE.out _ B5.out).ints (by rw [← HNB.out]; omega)
    clear ho5 b5 hc5
    go_wp2_with fail
    refine hc6.mono ?_
    rintro e w6 ⟨v6, rfl, ho6, b6⟩
    have HO6 := Lib.hid (HO5.out.below b6)
    replace H4 := Lib.hid (H4.out.below b6)
    have B6 := Lib.hid (B5.out.trans (b6.mono B5.out.size))
    have hlo5 := HO5.out.lt
    have HS45 := Lib.hid (show w4.heap.size ≤ w5.heap.size ∧ w4.heap.size ≤ w6.heap.size from ⟨HS5.out, Nat.le_trans HS5.out b6.size⟩)
    have HU6 := Lib.hid (show HeldE rowE (fun b9 => w4.heap.size ≤ b9 ∧ v5.ownBlock ≠ some b9) w6 v6 (cluA Bs) from (ho6.held (Z := fun b => w5.heap.size ≤ b) (fun b h _ => h)).zoned (fun b9 _ h => ⟨Nat.le_trans HS45.out.1 h, fun e => by have := (hlo5 _ e).2; omega⟩))
    have H4Z := Lib.hid (H4.out.zoned (Y := fun b => b < w4.heap.size) (fun b _ h => h.2))
    clear ho6 b6 hc6 hlo5 HO5
    go_wp2_with (at_builtin; refine wpList_append_e (E := rowE) (Z := fun b => w4.heap.size ≤ b) rfl (.tmp 62) (.tmp 64) 27 rfl (.slice none 0 0) 24 Try.underlying27 info_rs rfl (by decide) rfl rfl HO6.out HU6.out (by have := HFA.out; have := HFB.out; rw [← HNA.out] at *; rw [← HNB.out] at *; omega) (by have := HFA.out; have := HFB.out; rw [← HNA.out] at *; rw [← HNB.out] at *; omega) HS45.out.2 ?_)
    intro v7 w7 ho7 b7 _ _
    have HL7 := Lib.hid (ho7.held (Z := fun b => w4.heap.size ≤ b) (fun b h _ => h))
    have H47 := Lib.hid (H4Z.out.kept (KeepZ.below b7))
    have B7 := Lib.hid (B6.out.trans (b7.mono B4.out.size))
    clear ho7 b7 HO6 HU6
    go_wp2_with fail
    refine (rsame16_self _ _ v4 v7 _ w7 H47.out HL7.out).mono ?_
    rintro e w8 ⟨rfl, b8⟩
    have B8 := Lib.hid (B7.out.trans (b8.mono B7.out.size))
    clear b8
    go_wp2
    go_ret
    exact ⟨(ret_eq (by first | rfl | (simp <;> omega))), B8.out⟩

set_option maxRecDepth 100000 in
theorem walk {H : Type} {enc : TypeId × Value → H} (W : World) (v : Value) {base : Nat} {d : DataW H} {p : List MemPlace} (hv : Value.okWide Try.prog W .any base 22 v) (h : DataW.Trod enc Try.prog W 0 (fun _ => true) true 22 v d p) (u : Value) {base' : Nat} {d' : DataW H} {p' : List MemPlace} (hv' : Value.okWide Try.prog W .any base' 22 u) (h' : DataW.Trod enc Try.prog W 0 (fun _ => true) true 22 u d' p') : Calls Try.prog 5 #[v, u] W (Yes W) := by
  obtain ⟨A, hA, hrA⟩ := runes_arg hv h
  obtain ⟨Bs, hB, hrB⟩ := runes_arg hv' h'
  by_cases hl : A.length ≤ 300 ∧ Bs.length ≤ 300 ∧ 0 < Bs.length
  · exact walkN W v u A Bs hA hB hrA hrB hl.1 hl.2.1 hl.2.2
  obtain ⟨ao, ca, rfl⟩ := hA.len
  obtain ⟨bo, cb, rfl⟩ := hB.len
  obtain ⟨na, hna⟩ : ∃ na, na = A.length := ⟨_, rfl⟩
  obtain ⟨nb, hnb⟩ : ∃ nb, nb = Bs.length := ⟨_, rfl⟩
  rw [← hna, ← hnb] at hl ⊢
  clear hv h hv' h' hA hB hrA hrB hna hnb
  have hw : (decide ((300 : Int) < na) = true ∧ decide (300 < na) = true) ∨ (decide ((300 : Int) < na) = false ∧ decide (300 < na) = false ∧ decide ((300 : Int) < nb) = true ∧ decide (300 < nb) = true) ∨ (decide ((300 : Int) < na) = false ∧ decide (300 < na) = false ∧ decide ((300 : Int) < nb) = false ∧ decide (300 < nb) = false ∧ ((nb : Int) == 0) = true) := by
    simp only [decide_eq_true_eq, decide_eq_false_iff_not, beq_iff_eq]
    omega
  clear hl
  rcases hw with ⟨d1, d2⟩ | ⟨d1, d2, d3, d4⟩ | ⟨d1, d2, d3, d4, d5⟩
  all_goals
    go_enter Try.func5, Try.ntmps5
    go_wp2_with fail
    refine (works16_any _).mono ?_
    rintro e w1 ⟨rfl, b1⟩
    go_wp2_with fail
    refine (works16_any _).mono ?_
    rintro e w2 ⟨rfl, b2⟩
    have B := b1.trans (b2.mono b1.size)
    go_wp2
    go_ret
    exact ⟨(ret_eq (by first | rfl | (simp <;> omega))), B⟩

set_option maxRecDepth 100000 in
theorem lifted (os : Os) (started : os.Started) (H : Type) (enc : TypeId × Value → H) :
    ReturnsInHanded {} Try.checked os 5 .any (Rows.graphemeCutsSpec.pre6 enc Try.prog Try.f5 Rows.graphemeCutsRow.domain false) (Rows.graphemeCutsSpec.post enc Try.prog Try.f5 false true false false) := by
  refine law_frame_plain (C := Try.checked) (tb := 4) (by kernel_rfl) started (by kernel_rfl) Try.func5 (by kernel_rfl) (by kernel_rfl) Try.underlying4 rfl
    (by rw [Try.params5]; intro t ht; simp at ht; subst ht <;> exact ⟨by kernel_rfl, of_decide_eq_true (by kernel_rfl)⟩)
    (by rw [Try.params5]; intro ds hd; match ds, hd with | [_, _], _ => rfl)
    (ChangeSpec.witness6 (enc := enc) (C := Try.checked) false ⟨#[], #[.slice none 0 0, .slice none 0 0], []⟩ 8 (by kernel_rfl) (by kernel_rfl) (by kernel_rfl) (by kernel_rfl)) ?_
  intro W base args ds before hval hA
  rw [Try.params5] at hA hval
  obtain ⟨v0, vs0, d0, ds0, p0, q0, hargs, rfl, rfl, h0, r0⟩ := trodAll_cons hA
  obtain ⟨v1, vs1, d1, ds1, p1, q1, rfl, rfl, rfl, h1, r1⟩ := trodAll_cons r0
  obtain ⟨rfl, rfl, rfl⟩ := trodAll_nil r1
  obtain rfl : args = #[v0, v1] := by cases args; simp_all

  exact walk W v0 (hval 0 22 v0 rfl rfl) h0 v1 (hval 1 22 v1 rfl rfl) h1

theorem proved : Rows.GraphemeCutsSaid :=
  OpenClaim.holds_of_wide 5 Try.f5 rfl rfl rfl rfl rfl rfl rfl ⟨rfl, rfl, rfl, rfl, rfl⟩ rfl rfl rfl rfl rfl (by kernel_rfl) Try.func5 (by kernel_rfl)
    (of_decide_eq_true (by kernel_rfl)) (by unfold Func.isWrapper; first | (rw [if_pos (by decide +kernel)]; kernel_rfl) | (rw [if_neg (by decide +kernel)]; exact ⟨rfl, rfl⟩))
    (fun os started H enc _ => lifted os started H enc)
#print axioms proved

end Go.Proofs.Ytejiaejdpigiaaa.lawGraphemeCuts
