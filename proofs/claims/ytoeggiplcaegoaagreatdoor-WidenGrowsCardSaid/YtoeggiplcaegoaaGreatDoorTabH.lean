/- What the reference's lists tell of any number. -/
import Derived.Test.YtoeggiplcaegoaaGreatDoorMg2
import Derived.Test.YtoeggiplcaegoaaGreatDoorHgR
namespace Go.Proofs.YtoeggiplcaegoaaGreatDoor
open Go.RowKit Go.ChangeShapes Go.WideShapes
def ofI : List (List (Int × Int)) → Int → Int → Int → Int
  | [], _, _, d => d
  | T :: Ts, n, r, d => if inTab T r = true then n else ofI Ts (n + 1) r d
theorem ofI_hit (r d : Int) : ∀ (Ts : List (List (Int × Int))) (n : Int) (k : Nat), k < Ts.length → (∀ j, j < k → inTab (Ts.getD j []) r = false) → inTab (Ts.getD k []) r = true → ofI Ts n r d = n + k
  | [], _, k, hk, _, _ => absurd hk (Nat.not_lt_zero _)
  | T :: Ts, n, 0, _, _, h => by
    have h' : inTab T r = true := h
    unfold ofI
    rw [if_pos h']
    simp
  | T :: Ts, n, k + 1, hk, hj, h => by
    have h' : inTab T r = false := hj 0 (by omega)
    unfold ofI
    rw [h', if_neg (by decide), ofI_hit r d Ts (n + 1) k (by simpa using hk) (fun j h => hj (j + 1) (by omega)) h]
    push_cast
    omega
theorem ofI_miss (r d : Int) : ∀ (Ts : List (List (Int × Int))) (n : Int), (∀ j, j < Ts.length → inTab (Ts.getD j []) r = false) → ofI Ts n r d = d
  | [], _, _ => rfl
  | T :: Ts, n, hj => by
    have h' : inTab T r = false := hj 0 (by simp)
    unfold ofI
    rw [h', if_neg (by decide), ofI_miss r d Ts (n + 1) (fun j h => hj (j + 1) (by simpa using h))]
def tabs09 : List (List (Int × Int)) := [tCR, tLF, tControl, tExtend, tZWJ, tRI, tPrepend, tSpacing]
def tabs11 : List (List (Int × Int)) := [tCons, tLink, tJoin]
def tabs12 : List (List (Int × Int)) := [tWide, tFull, tHalf]
theorem tb_get {W : World} {g : Nat} {vs : List Value} {t : TypeId} (h : Has W g vs t) (k : Nat) (hk : k < vs.length) : W.cell? ⟨g, k, none⟩ = some (vs.getD k undef) :=
  h.cell k _ (by simp [List.getD, List.getElem?_eq_getElem hk])
set_option maxRecDepth 100000 in
set_option maxHeartbeats 2000000 in
theorem rof11_any (r : Int) (w : World) (r0 : -2147483648 ≤ r) (r1 : r ≤ 2147483647) : Calls Tryz.prog 66 #[.int .i32 r] w (Gives w (.int .i64 (ofI tabs11 1 r 0))) := by
  go_enter Tryz.func66, Tryz.ntmps66
  go_wp2_with fail
  refine (r11list1_any _).mono ?_
  rintro e w1 ⟨v1, rfl, h1, b1⟩
  obtain ⟨ao1, c1, rfl, _⟩ := id h1.view
  have H1 := Lib.hid h1
  clear h1
  go_wp2_with fail
  refine (r11list2_any _).mono ?_
  rintro e w2 ⟨v2, rfl, h2, b2⟩
  obtain ⟨ao2, c2, rfl, _⟩ := id h2.view
  have H2 := Lib.hid h2
  clear h2
  go_wp2_with fail
  refine (r11list3_any _).mono ?_
  rintro e w3 ⟨v3, rfl, h3, b3⟩
  obtain ⟨ao3, c3, rfl, _⟩ := id h3.view
  have H3 := Lib.hid h3
  clear h3
  go_wp2
  obtain ⟨vs, hvs⟩ : ∃ vs : List Value, vs = [.slice ao1 tCons.length c1, .slice ao2 tLink.length c2, .slice ao3 tJoin.length c3] := ⟨_, rfl⟩
  obtain ⟨W, hW⟩ : ∃ W, W = w3.alloc (.cells vs.toArray 188) := ⟨_, rfl⟩
  have hE : w3.alloc (.cells #[.slice ao1 tCons.length c1, .slice ao2 tLink.length c2, .slice ao3 tJoin.length c3] 188) = W := by rw [hW, hvs]
  rw [hE]
  have hlen : vs.length = 3 := by rw [hvs]; rfl
  have hs : Has W w3.heap.size vs 188 := by rw [hW]; exact Has.new w3 _ _
  have hbl3 : Below w3.heap.size w3 W := by rw [hW]; exact (Below.refl _ _).alloc (Nat.le_refl _) _
  have hbl2 : Below w2.heap.size w2 W := b3.trans (hbl3.mono b3.size)
  have hbl1 : Below w1.heap.size w1 W := b2.trans (hbl2.mono b2.size)
  have hall : ∀ k, k < 3 → HeldT .i64 W (vs.getD k undef) (tabs11.getD k []) := by
    intro k hk
    rw [hvs]
    match k, hk with
    | 0, _ => exact H1.out.below hbl1
    | 1, _ => exact H2.out.below hbl2
    | 2, _ => exact H3.out.below hbl3
  have hl : Below w.heap.size w W := b1.trans (hbl1.mono b1.size)
  have hsm : ∀ k, k < 3 → (tabs11.getD k []).length ≤ 1000000 := by
    intro k hk
    match k, hk with
    | 0, _ => show tCons.length ≤ 1000000; decide +kernel
    | 1, _ => show tLink.length ≤ 1000000; decide +kernel
    | 2, _ => show tJoin.length ≤ 1000000; decide +kernel
  have HA := Lib.hid hall
  have HS := Lib.hid hs
  have HM := Lib.hid hsm
  clear hall hsm hE hvs hW H1 H2 H3 b1 b2 b3 hbl1 hbl2 hbl3
  go_loopw [4] (fun i wr => ∃ k : Nat, k ≤ 3 ∧ i = .int .i64 k ∧ Go.RowKit.Hid (∀ j, j < k → inTab (tabs11.getD j []) r = false) ∧ Below W.heap.size W wr) (fun i _ => 3 - (intOf i).toNat)
  case atStart => exact ⟨0, Nat.zero_le _, rfl, Lib.hid (fun j hj => by omega), Below.refl _ _⟩
  case round =>
    obtain ⟨k, hk, rfl, HN, hbw⟩ := hrel
    by_cases hlt : k < 3
    · have hh := (HA.out k hlt).below hbw
      have hcx := (hbw.cell (p := ⟨w3.heap.size, k, none⟩) HS.out.lt).trans (tb_get HS.out k (by rw [hlen]; exact hlt))
      have hm := HM.out k hlt
      obtain ⟨T, hT⟩ : ∃ T, T = tabs11.getD k [] := ⟨_, rfl⟩
      rw [← hT] at hh hm
      have HT := Lib.hid hT
      obtain ⟨ao, cap, hv, _⟩ := id hh.view
      rw [hv] at hh hcx
      have HH := Lib.hid hh
      clear hh hv hT
      cases hin : inTab T r with
      | true =>
        have he := ofI_hit r 0 tabs11 1 k hlt HN.out (by rw [← HT.out]; exact hin)
        have HE := Lib.hid he
        clear he
        go_wp2_with fail
        refine (in_any _ T r _ HH.out hm r0 r1).mono ?_
        rintro e wx ⟨rfl, bx⟩
        have hfin := hl.trans ((hbw.trans (bx.mono hbw.size)).mono hl.size)
        go_wp2
        go_ret
        exact ⟨ret_eq (by rw [HE.out]; simp; try omega), hfin⟩
      | false =>
        have HN2 := Lib.hid (show ∀ j, j < k + 1 → inTab (tabs11.getD j []) r = false from fun j hj => by
          by_cases h : j = k
          · subst h; rw [← HT.out]; exact hin
          · exact HN.out j (by omega))
        go_wp2_with fail
        refine (in_any _ T r _ HH.out hm r0 r1).mono ?_
        rintro e wx ⟨rfl, bx⟩
        have hbx := hbw.trans (bx.mono hbw.size)
        go_wp2
        go_roundw
        case rel => exact ⟨k + 1, by omega, by go_num, HN2, hbx⟩
        case measure => simp [intOf]; omega
    · have he := ofI_miss r 0 tabs11 1 (fun j hj => HN.out j (Nat.lt_of_lt_of_le hj (show 3 ≤ k by omega)))
      have HE := Lib.hid he
      clear he
      have hfin := hl.trans (hbw.mono hl.size)
      go_wp2
      go_ret
      exact ⟨ret_eq (by rw [HE.out]; try rfl), hfin⟩
set_option maxRecDepth 100000 in
set_option maxHeartbeats 2000000 in
theorem rof12_any (r : Int) (w : World) (r0 : -2147483648 ≤ r) (r1 : r ≤ 2147483647) : Calls Tryz.prog 67 #[.int .i32 r] w (Gives w (.int .i64 (ofI tabs12 1 r 0))) := by
  go_enter Tryz.func67, Tryz.ntmps67
  go_wp2_with fail
  refine (r12list1_any _).mono ?_
  rintro e w1 ⟨v1, rfl, h1, b1⟩
  obtain ⟨ao1, c1, rfl, _⟩ := id h1.view
  have H1 := Lib.hid h1
  clear h1
  go_wp2_with fail
  refine (r12list2_any _).mono ?_
  rintro e w2 ⟨v2, rfl, h2, b2⟩
  obtain ⟨ao2, c2, rfl, _⟩ := id h2.view
  have H2 := Lib.hid h2
  clear h2
  go_wp2_with fail
  refine (r12list3_any _).mono ?_
  rintro e w3 ⟨v3, rfl, h3, b3⟩
  obtain ⟨ao3, c3, rfl, _⟩ := id h3.view
  have H3 := Lib.hid h3
  clear h3
  go_wp2
  obtain ⟨vs, hvs⟩ : ∃ vs : List Value, vs = [.slice ao1 tWide.length c1, .slice ao2 tFull.length c2, .slice ao3 tHalf.length c3] := ⟨_, rfl⟩
  obtain ⟨W, hW⟩ : ∃ W, W = w3.alloc (.cells vs.toArray 188) := ⟨_, rfl⟩
  have hE : w3.alloc (.cells #[.slice ao1 tWide.length c1, .slice ao2 tFull.length c2, .slice ao3 tHalf.length c3] 188) = W := by rw [hW, hvs]
  rw [hE]
  have hlen : vs.length = 3 := by rw [hvs]; rfl
  have hs : Has W w3.heap.size vs 188 := by rw [hW]; exact Has.new w3 _ _
  have hbl3 : Below w3.heap.size w3 W := by rw [hW]; exact (Below.refl _ _).alloc (Nat.le_refl _) _
  have hbl2 : Below w2.heap.size w2 W := b3.trans (hbl3.mono b3.size)
  have hbl1 : Below w1.heap.size w1 W := b2.trans (hbl2.mono b2.size)
  have hall : ∀ k, k < 3 → HeldT .i64 W (vs.getD k undef) (tabs12.getD k []) := by
    intro k hk
    rw [hvs]
    match k, hk with
    | 0, _ => exact H1.out.below hbl1
    | 1, _ => exact H2.out.below hbl2
    | 2, _ => exact H3.out.below hbl3
  have hl : Below w.heap.size w W := b1.trans (hbl1.mono b1.size)
  have hsm : ∀ k, k < 3 → (tabs12.getD k []).length ≤ 1000000 := by
    intro k hk
    match k, hk with
    | 0, _ => show tWide.length ≤ 1000000; decide +kernel
    | 1, _ => show tFull.length ≤ 1000000; decide +kernel
    | 2, _ => show tHalf.length ≤ 1000000; decide +kernel
  have HA := Lib.hid hall
  have HS := Lib.hid hs
  have HM := Lib.hid hsm
  clear hall hsm hE hvs hW H1 H2 H3 b1 b2 b3 hbl1 hbl2 hbl3
  go_loopw [4] (fun i wr => ∃ k : Nat, k ≤ 3 ∧ i = .int .i64 k ∧ Go.RowKit.Hid (∀ j, j < k → inTab (tabs12.getD j []) r = false) ∧ Below W.heap.size W wr) (fun i _ => 3 - (intOf i).toNat)
  case atStart => exact ⟨0, Nat.zero_le _, rfl, Lib.hid (fun j hj => by omega), Below.refl _ _⟩
  case round =>
    obtain ⟨k, hk, rfl, HN, hbw⟩ := hrel
    by_cases hlt : k < 3
    · have hh := (HA.out k hlt).below hbw
      have hcx := (hbw.cell (p := ⟨w3.heap.size, k, none⟩) HS.out.lt).trans (tb_get HS.out k (by rw [hlen]; exact hlt))
      have hm := HM.out k hlt
      obtain ⟨T, hT⟩ : ∃ T, T = tabs12.getD k [] := ⟨_, rfl⟩
      rw [← hT] at hh hm
      have HT := Lib.hid hT
      obtain ⟨ao, cap, hv, _⟩ := id hh.view
      rw [hv] at hh hcx
      have HH := Lib.hid hh
      clear hh hv hT
      cases hin : inTab T r with
      | true =>
        have he := ofI_hit r 0 tabs12 1 k hlt HN.out (by rw [← HT.out]; exact hin)
        have HE := Lib.hid he
        clear he
        go_wp2_with fail
        refine (in_any _ T r _ HH.out hm r0 r1).mono ?_
        rintro e wx ⟨rfl, bx⟩
        have hfin := hl.trans ((hbw.trans (bx.mono hbw.size)).mono hl.size)
        go_wp2
        go_ret
        exact ⟨ret_eq (by rw [HE.out]; simp; try omega), hfin⟩
      | false =>
        have HN2 := Lib.hid (show ∀ j, j < k + 1 → inTab (tabs12.getD j []) r = false from fun j hj => by
          by_cases h : j = k
          · subst h; rw [← HT.out]; exact hin
          · exact HN.out j (by omega))
        go_wp2_with fail
        refine (in_any _ T r _ HH.out hm r0 r1).mono ?_
        rintro e wx ⟨rfl, bx⟩
        have hbx := hbw.trans (bx.mono hbw.size)
        go_wp2
        go_roundw
        case rel => exact ⟨k + 1, by omega, by go_num, HN2, hbx⟩
        case measure => simp [intOf]; omega
    · have he := ofI_miss r 0 tabs12 1 (fun j hj => HN.out j (Nat.lt_of_lt_of_le hj (show 3 ≤ k by omega)))
      have HE := Lib.hid he
      clear he
      have hfin := hl.trans (hbw.mono hl.size)
      go_wp2
      go_ret
      exact ⟨ret_eq (by rw [HE.out]; try rfl), hfin⟩
set_option maxRecDepth 100000 in
set_option maxHeartbeats 2000000 in
theorem rof09_any (r : Int) (w : World) (r0 : -2147483648 ≤ r) (r1 : r ≤ 2147483647) : Calls Tryz.prog 64 #[.int .i32 r] w (Gives w (.int .i64 (ofI tabs09 1 r (classI r)))) := by
  go_enter Tryz.func64, Tryz.ntmps64
  go_wp2_with fail
  refine (r09list1_any _).mono ?_
  rintro e w1 ⟨v1, rfl, h1, b1⟩
  obtain ⟨ao1, c1, rfl, _⟩ := id h1.view
  have H1 := Lib.hid h1
  clear h1
  go_wp2_with fail
  refine (r09list2_any _).mono ?_
  rintro e w2 ⟨v2, rfl, h2, b2⟩
  obtain ⟨ao2, c2, rfl, _⟩ := id h2.view
  have H2 := Lib.hid h2
  clear h2
  go_wp2_with fail
  refine (r09list3_any _).mono ?_
  rintro e w3 ⟨v3, rfl, h3, b3⟩
  obtain ⟨ao3, c3, rfl, _⟩ := id h3.view
  have H3 := Lib.hid h3
  clear h3
  go_wp2_with fail
  refine (r09list4_any _).mono ?_
  rintro e w4 ⟨v4, rfl, h4, b4⟩
  obtain ⟨ao4, c4, rfl, _⟩ := id h4.view
  have H4 := Lib.hid h4
  clear h4
  go_wp2_with fail
  refine (r09list5_any _).mono ?_
  rintro e w5 ⟨v5, rfl, h5, b5⟩
  obtain ⟨ao5, c5, rfl, _⟩ := id h5.view
  have H5 := Lib.hid h5
  clear h5
  go_wp2_with fail
  refine (r09list6_any _).mono ?_
  rintro e w6 ⟨v6, rfl, h6, b6⟩
  obtain ⟨ao6, c6, rfl, _⟩ := id h6.view
  have H6 := Lib.hid h6
  clear h6
  go_wp2_with fail
  refine (r09list7_any _).mono ?_
  rintro e w7 ⟨v7, rfl, h7, b7⟩
  obtain ⟨ao7, c7, rfl, _⟩ := id h7.view
  have H7 := Lib.hid h7
  clear h7
  go_wp2_with fail
  refine (r09list8_any _).mono ?_
  rintro e w8 ⟨v8, rfl, h8, b8⟩
  obtain ⟨ao8, c8, rfl, _⟩ := id h8.view
  have H8 := Lib.hid h8
  clear h8
  go_wp2
  obtain ⟨vs, hvs⟩ : ∃ vs : List Value, vs = [.slice ao1 tCR.length c1, .slice ao2 tLF.length c2, .slice ao3 tControl.length c3, .slice ao4 tExtend.length c4, .slice ao5 tZWJ.length c5, .slice ao6 tRI.length c6, .slice ao7 tPrepend.length c7, .slice ao8 tSpacing.length c8] := ⟨_, rfl⟩
  obtain ⟨W, hW⟩ : ∃ W, W = w8.alloc (.cells vs.toArray 188) := ⟨_, rfl⟩
  have hE : w8.alloc (.cells #[.slice ao1 tCR.length c1, .slice ao2 tLF.length c2, .slice ao3 tControl.length c3, .slice ao4 tExtend.length c4, .slice ao5 tZWJ.length c5, .slice ao6 tRI.length c6, .slice ao7 tPrepend.length c7, .slice ao8 tSpacing.length c8] 188) = W := by rw [hW, hvs]
  rw [hE]
  have hlen : vs.length = 8 := by rw [hvs]; rfl
  have hs : Has W w8.heap.size vs 188 := by rw [hW]; exact Has.new w8 _ _
  have hbl8 : Below w8.heap.size w8 W := by rw [hW]; exact (Below.refl _ _).alloc (Nat.le_refl _) _
  have hbl7 : Below w7.heap.size w7 W := b8.trans (hbl8.mono b8.size)
  have hbl6 : Below w6.heap.size w6 W := b7.trans (hbl7.mono b7.size)
  have hbl5 : Below w5.heap.size w5 W := b6.trans (hbl6.mono b6.size)
  have hbl4 : Below w4.heap.size w4 W := b5.trans (hbl5.mono b5.size)
  have hbl3 : Below w3.heap.size w3 W := b4.trans (hbl4.mono b4.size)
  have hbl2 : Below w2.heap.size w2 W := b3.trans (hbl3.mono b3.size)
  have hbl1 : Below w1.heap.size w1 W := b2.trans (hbl2.mono b2.size)
  have hall : ∀ k, k < 8 → HeldT .i64 W (vs.getD k undef) (tabs09.getD k []) := by
    intro k hk
    rw [hvs]
    match k, hk with
    | 0, _ => exact H1.out.below hbl1
    | 1, _ => exact H2.out.below hbl2
    | 2, _ => exact H3.out.below hbl3
    | 3, _ => exact H4.out.below hbl4
    | 4, _ => exact H5.out.below hbl5
    | 5, _ => exact H6.out.below hbl6
    | 6, _ => exact H7.out.below hbl7
    | 7, _ => exact H8.out.below hbl8
  have hl : Below w.heap.size w W := b1.trans (hbl1.mono b1.size)
  have hsm : ∀ k, k < 8 → (tabs09.getD k []).length ≤ 1000000 := by
    intro k hk
    match k, hk with
    | 0, _ => show tCR.length ≤ 1000000; decide +kernel
    | 1, _ => show tLF.length ≤ 1000000; decide +kernel
    | 2, _ => show tControl.length ≤ 1000000; decide +kernel
    | 3, _ => show tExtend.length ≤ 1000000; decide +kernel
    | 4, _ => show tZWJ.length ≤ 1000000; decide +kernel
    | 5, _ => show tRI.length ≤ 1000000; decide +kernel
    | 6, _ => show tPrepend.length ≤ 1000000; decide +kernel
    | 7, _ => show tSpacing.length ≤ 1000000; decide +kernel
  have HA := Lib.hid hall
  have HS := Lib.hid hs
  have HM := Lib.hid hsm
  clear hall hsm hE hvs hW H1 H2 H3 H4 H5 H6 H7 H8 b1 b2 b3 b4 b5 b6 b7 b8 hbl1 hbl2 hbl3 hbl4 hbl5 hbl6 hbl7 hbl8
  go_loopw [4] (fun i wr => ∃ k : Nat, k ≤ 8 ∧ i = .int .i64 k ∧ Go.RowKit.Hid (∀ j, j < k → inTab (tabs09.getD j []) r = false) ∧ Below W.heap.size W wr) (fun i _ => 8 - (intOf i).toNat)
  case atStart => exact ⟨0, Nat.zero_le _, rfl, Lib.hid (fun j hj => by omega), Below.refl _ _⟩
  case round =>
    obtain ⟨k, hk, rfl, HN, hbw⟩ := hrel
    by_cases hlt : k < 8
    · have hh := (HA.out k hlt).below hbw
      have hcx := (hbw.cell (p := ⟨w8.heap.size, k, none⟩) HS.out.lt).trans (tb_get HS.out k (by rw [hlen]; exact hlt))
      have hm := HM.out k hlt
      obtain ⟨T, hT⟩ : ∃ T, T = tabs09.getD k [] := ⟨_, rfl⟩
      rw [← hT] at hh hm
      have HT := Lib.hid hT
      obtain ⟨ao, cap, hv, _⟩ := id hh.view
      rw [hv] at hh hcx
      have HH := Lib.hid hh
      clear hh hv hT
      cases hin : inTab T r with
      | true =>
        have he := ofI_hit r (classI r) tabs09 1 k hlt HN.out (by rw [← HT.out]; exact hin)
        have HE := Lib.hid he
        clear he
        go_wp2_with fail
        refine (in_any _ T r _ HH.out hm r0 r1).mono ?_
        rintro e wx ⟨rfl, bx⟩
        have hfin := hl.trans ((hbw.trans (bx.mono hbw.size)).mono hl.size)
        go_wp2
        go_ret
        exact ⟨ret_eq (by rw [HE.out]; simp; try omega), hfin⟩
      | false =>
        have HN2 := Lib.hid (show ∀ j, j < k + 1 → inTab (tabs09.getD j []) r = false from fun j hj => by
          by_cases h : j = k
          · subst h; rw [← HT.out]; exact hin
          · exact HN.out j (by omega))
        go_wp2_with fail
        refine (in_any _ T r _ HH.out hm r0 r1).mono ?_
        rintro e wx ⟨rfl, bx⟩
        have hbx := hbw.trans (bx.mono hbw.size)
        go_wp2
        go_roundw
        case rel => exact ⟨k + 1, by omega, by go_num, HN2, hbx⟩
        case measure => simp [intOf]; omega
    · have he := ofI_miss r (classI r) tabs09 1 (fun j hj => HN.out j (Nat.lt_of_lt_of_le hj (show 8 ≤ k by omega)))
      have HE := Lib.hid he
      clear he
      have hfin := hl.trans (hbw.mono hl.size)
      go_wp2_with fail
      refine (refclass_any r _ r0 r1).mono ?_
      rintro e w' ⟨rfl, rfl⟩
      go_wp2
      go_ret
      exact ⟨ret_eq (by rw [HE.out]; try rfl), hfin⟩
end Go.Proofs.YtoeggiplcaegoaaGreatDoor
