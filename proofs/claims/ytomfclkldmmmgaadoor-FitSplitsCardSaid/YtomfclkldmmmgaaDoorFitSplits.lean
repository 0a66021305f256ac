/- FitSplits (28.2 to 28.4) answers true at every sound row and every place, and turns nothing. Condition: ErrRange reads as its initialiser lays it (tied to the program's text by the card). -/
import Derived.Test.YtomfclkldmmmgaaDoorFitW
import Derived.Test.YtomfclkldmmmgaaDoorFitR
import Derived.Test.YtomfclkldmmmgaaDoorAppG
import Derived.Test.YtomfclkldmmmgaaDoorCellU
import Derived.Test.YtomfclkldmmmgaaDoorCellS
import Derived.Test.YtomfclkldmmmgaaDoorErrS
import Derived.Test.YtomfclkldmmmgaaDoorCards
import Derived.Test.YtomfclkldmmmgaaDoorTie
import Derived.ProofKit
import Derived.Lib.MinMax
namespace Go.Proofs.YtomfclkldmmmgaaDoor.lawFitSplits
open Go.ChangeShapes Go.WideShapes Go.ChangeAt Go.RowKit
theorem rows_own {Z : Zone} {w : World} {B n : Nat} (l : List (Option (List Cl))) (vs : List Value) (hn : l.length = n) (hv : vs.length = n) (hB : B ≤ w.heap.size) (hm : n ≤ maxLen) (hr : ∀ i, i < n → rowRep Z w [vs.getD i undef] (l.getD i none)) (hz : ∀ b, B ≤ b → Z b) : HeldE rowE Z (w.alloc (.cells vs.toArray 28)) (.slice (some ⟨w.heap.size, 0, none⟩) n n) l := by
  have hf : (vs.map fun v => [v]).flatten = vs := by
    clear hv hr
    induction vs with
    | nil => rfl
    | cons v vs ih => rw [List.map_cons, List.flatten_cons, ih]; rfl
  refine (OwnE.lit w rowE (vs.map fun v => [v]) l n hn (by rw [List.length_map, hv]) hB hm (fun i hi => ?_) vs.toArray (by rw [hf])).held (fun b h _ => hz b h)
  have e : (vs.map fun v => [v]).getD i [] = [vs.getD i undef] := by
    simp [List.getD, List.getElem?_eq_getElem (show i < vs.length by omega)]
  rw [e]
  exact hr i hi
theorem cat_two (A B : List Cl) : catL [some A, some B] 2 = A ++ B := by simp [catL, flatG]
theorem split_join (L : List Cl) (c : Nat) : (tearL L c).take c ++ (tearL L c).drop c = tearL L c := List.take_append_drop _ _
set_option maxRecDepth 100000 in
set_option maxHeartbeats 8000000 in
theorem walkH (W : World) (va : Value) (L : List Cl) (Z : Zone) (ha : HeldE cellE Z W va L) (c : Int) (hre : RangeErr W) : Calls Tryd.prog 11 #[va, .int .i64 c] W (Yes W) := by
  have hla := ha.max
  have ha := ha.lower
  obtain ⟨ao, ca, rfl⟩ := ha.len
  obtain ⟨_, hca, hca2, hao, _⟩ := id ha
  have HA := Lib.hid ha
  have HRE := Lib.hid hre
  clear ha hre
  by_cases h1 : 200 < L.length
  · go_enter Tryd.func11, Tryd.ntmps11
    go_wp2_with fail
    refine (works28_any _ HRE.out).mono ?_
    rintro e w1 ⟨rfl, b1⟩
    go_wp2_with fail
    refine (works28_any _ (HRE.out.below b1)).mono ?_
    rintro e w2 ⟨rfl, b2⟩
    have b2 := b1.trans (b2.mono b1.size)
    go_wp2
    go_ret
    exact ⟨(ret_eq (by first | rfl | (simp <;> omega))), b2⟩
  have hd60 : decide ((200 : Int) < L.length) = false := by simp; omega
  by_cases h0 : L.length = 0
  · have hz : ((L.length : Int) == 0) = true := by rw [beq_iff_eq]; omega
    go_enter Tryd.func11, Tryd.ntmps11
    go_wp2_with fail
    refine (works28_any _ HRE.out).mono ?_
    rintro e w1 ⟨rfl, b1⟩
    go_wp2_with fail
    refine (works28_any _ (HRE.out.below b1)).mono ?_
    rintro e w2 ⟨rfl, b2⟩
    have b2 := b1.trans (b2.mono b1.size)
    go_wp2
    go_ret
    exact ⟨(ret_eq (by first | rfl | (simp <;> omega))), b2⟩
  have hz : ((L.length : Int) == 0) = false := by rw [beq_eq_false_iff_ne]; omega
  by_cases hs : soundB L = false
  · go_enter Tryd.func11, Tryd.ntmps11
    go_wp2_with fail
    refine (works28_any _ HRE.out).mono ?_
    rintro e w1 ⟨rfl, b1⟩
    have hse := rsound_any _ _ _ _ (HA.out.below b1)
    rw [← sound_iff, hs] at hse
    go_wp2_with fail
    refine hse.mono ?_
    rintro e w2 ⟨rfl, b2⟩
    have b2 := b1.trans (b2.mono b1.size)
    go_wp2_with fail
    refine (works28_any _ (HRE.out.below b2)).mono ?_
    rintro e w3 ⟨rfl, b3⟩
    have b3 := b2.trans (b3.mono b2.size)
    go_wp2
    go_ret
    exact ⟨(ret_eq (by first | rfl | (simp <;> omega))), b3⟩
  have hs : soundB L = true := by simpa using hs
  by_cases hbad : c < 1 ∨ (L.length : Int) ≤ c
  · have HBAD := Lib.hid hbad
    have hq : ∃ q0 q1, decide (c < 1) = q0 ∧ decide ((L.length : Int) ≤ c) = q1 ∧ (q0 = true ∨ q0 = false ∧ q1 = true) := by
      refine ⟨_, _, rfl, rfl, ?_⟩
      rcases hbad with h | h
      · left; simp; omega
      · by_cases h' : c < 1
        · left; simp; omega
        · right; exact ⟨by simp; omega, by simp; omega⟩
    obtain ⟨q0, q1, hq0, hq1, hq⟩ := hq
    clear hbad
    rcases hq with rfl | ⟨rfl, rfl⟩
    all_goals
      have HS := Lib.hid hs
      have HLL := Lib.hid (show 0 < L.length ∧ L.length ≤ 200 by omega)
      go_enter Tryd.func11, Tryd.ntmps11
      go_wp2_with fail
      refine (works28_any _ HRE.out).mono ?_
      rintro e w1 ⟨rfl, b1⟩
      have hse := rsound_any _ _ _ _ (HA.out.below b1)
      rw [← sound_iff, hs] at hse
      clear hs
      go_wp2_with fail
      refine hse.mono ?_
      rintro e w2 ⟨rfl, b2⟩
      have B := Lib.hid (b1.trans (b2.mono b1.size))
      clear b1 b2 hse
      have HP := Lib.hid (rof_ok _ _ _ _ (HA.out.below B.out) HLL.out.1 (by have := HLL.out; omega) HS.out)
      go_wp2_with fail
      clear hd60 hz h1 h0
      refine HP.out.mono ?_
      rintro e w3 ⟨g, gc, rfl, hr3, b3⟩
      have hr3 := hr3.any
      have hlt := hr3.lt
      have HLT := Lib.hid (show W.heap.size ≤ g ∧ W.heap.size ≤ gc ∧ g < w3.heap.size ∧ gc < w3.heap.size from by have := B.out.size; omega)
      replace B := Lib.hid (B.out.trans (b3.mono B.out.size))
      clear b3
      have R := Lib.hid hr3
      clear hr3 hlt HP
      have HX := Lib.hid (fsplit_bad _ _ g gc L _ c w3 R.out HBAD.out)
      go_wp2_with fail
      refine HX.out.mono ?_
      rintro e w4 ⟨rfl, rfl⟩
      go_wp2
      go_ret
      exact ⟨(ret_eq (by first | rfl | (simp <;> omega))), B.out⟩
  obtain ⟨k, rfl⟩ := Int.eq_ofNat_of_zero_le (show 0 ≤ c by omega)
  have hk0 : 0 < k := by omega
  have hkl : k < L.length := by omega
  have hdk : decide ((k : Int) < 1) = false := by simp; omega
  have hdl : decide ((L.length : Int) ≤ k) = false := by simp; omega
  have hdln : decide (L.length ≤ k) = false := by simp; omega
  have HAT := Lib.hid (cells_at HA.out).2.2
  have HS := Lib.hid hs
  have HLL := Lib.hid (show 0 < L.length ∧ L.length ≤ 200 by omega)
  go_enter Tryd.func11, Tryd.ntmps11
  go_wp2_with fail
  refine (works28_any _ HRE.out).mono ?_
  rintro e w1 ⟨rfl, b1⟩
  have hse := rsound_any _ _ _ _ (HA.out.below b1)
  rw [← sound_iff, hs] at hse
  clear hs
  go_wp2_with fail
  refine hse.mono ?_
  rintro e w2 ⟨rfl, b2⟩
  have B := Lib.hid (b1.trans (b2.mono b1.size))
  clear b1 b2 hse
  have HP := Lib.hid (rof_ok _ _ _ _ (HA.out.below B.out) HLL.out.1 (by have := HLL.out; omega) HS.out)
  go_wp2_with fail
  clear hd60 hz h1 h0
  refine HP.out.mono ?_
  rintro e w3 ⟨g, gc, rfl, hr3, b3⟩
  have hr3 := hr3.any
  have hlt := hr3.lt
  have HLT := Lib.hid (show W.heap.size ≤ g ∧ W.heap.size ≤ gc ∧ g < w3.heap.size ∧ gc < w3.heap.size from by have := B.out.size; omega)
  replace B := Lib.hid (B.out.trans (b3.mono B.out.size))
  clear b3
  have R := Lib.hid hr3
  clear hr3 hlt HP
  have HX := Lib.hid (fsplit_good _ g gc L _ k w3 R.out hk0 hkl)
  obtain ⟨T, hT⟩ : ∃ T, T = tearL L k := ⟨_, rfl⟩
  have HT := Lib.hid hT
  have HTL := Lib.hid (show T.length = L.length by rw [hT]; exact tear_len L k)
  rw [← hT] at HX
  clear hT
  obtain ⟨A, hA⟩ : ∃ A, A = T.take k := ⟨_, rfl⟩
  obtain ⟨D, hD⟩ : ∃ D, D = T.drop k := ⟨_, rfl⟩
  have HAD := Lib.hid (show A ++ D = T by rw [hA, hD, List.take_append_drop])
  have HTK := Lib.hid (show A.length ≤ 200 ∧ D.length ≤ 200 by rw [hA, hD, List.length_take, List.length_drop, HTL.out]; have := HLL.out; omega)
  have HAE := Lib.hid hA
  have HDE := Lib.hid hD
  rw [← hA, ← hD] at HX
  clear hA hD
  go_wp2_with fail
  refine HX.out.mono ?_
  rintro e w4 ⟨g1, gc1, g2, gc2, rfl, hr1, hr2, b4⟩
  have R1 := Lib.hid hr1
  have R2 := Lib.hid hr2
  replace B := Lib.hid (B.out.trans (b4.mono B.out.size))
  clear b4
  clear hr1 hr2 HX
  have HY := Lib.hid (rsplit_any (fun _ => True) _ L k w4 (fun _ _ => trivial) ((HA.out.below B.out).zone (fun _ _ _ => trivial)) (by have := HLL.out; omega) hk0 hkl)
  rw [← HT.out, ← HAE.out, ← HDE.out] at HY
  go_wp2_with fail
  refine HY.out.mono ?_
  rintro e w5 ⟨vx, vy, rfl, hx, hy, b5⟩
  have HXX := Lib.hid hx
  have HYY := Lib.hid hy
  replace B := Lib.hid (B.out.trans (b5.mono B.out.size))
  replace R1 := Lib.hid (R1.out.below b5)
  replace R2 := Lib.hid (R2.out.below b5)
  clear b5
  clear hx hy HY hdk hdl hdln
  go_wp2_with fail
  refine (rcells_any _ _ g1 gc1 _ _ _ R1.out).mono ?_
  rintro e w6 ⟨v6, rfl, ho6, b6⟩
  have H6 := Lib.hid (ho6.held (fun b hb _ => hb))
  replace B := Lib.hid (B.out.trans (b6.mono B.out.size))
  replace R1 := Lib.hid (R1.out.below b6)
  replace R2 := Lib.hid (R2.out.below b6)
  replace HXX := Lib.hid (HXX.out.below b6)
  replace HYY := Lib.hid (HYY.out.below b6)
  clear b6
  clear ho6
  go_wp2_with fail
  refine (rcsame_any _ _ _ _ _ _ _ H6.out HXX.out).mono ?_
  rintro e w7 ⟨rfl, b7⟩
  rw [sameC_self]
  replace B := Lib.hid (B.out.trans (b7.mono B.out.size))
  replace R1 := Lib.hid (R1.out.below b7)
  replace R2 := Lib.hid (R2.out.below b7)
  replace HXX := Lib.hid (HXX.out.below b7)
  replace HYY := Lib.hid (HYY.out.below b7)
  clear b7
  go_wp2_with fail
  refine (rcells_any _ _ g2 gc2 _ _ _ R2.out).mono ?_
  rintro e w8 ⟨v8, rfl, ho8, b8⟩
  have H8 := Lib.hid (ho8.held (fun b hb _ => hb))
  replace B := Lib.hid (B.out.trans (b8.mono B.out.size))
  replace R1 := Lib.hid (R1.out.below b8)
  replace R2 := Lib.hid (R2.out.below b8)
  replace HXX := Lib.hid (HXX.out.below b8)
  replace HYY := Lib.hid (HYY.out.below b8)
  clear b8
  clear ho8
  go_wp2_with fail
  refine (rcsame_any _ _ _ _ _ _ _ H8.out HYY.out).mono ?_
  rintro e w9 ⟨rfl, b9⟩
  rw [sameC_self]
  replace B := Lib.hid (B.out.trans (b9.mono B.out.size))
  replace R1 := Lib.hid (R1.out.below b9)
  replace R2 := Lib.hid (R2.out.below b9)
  replace HXX := Lib.hid (HXX.out.below b9)
  replace HYY := Lib.hid (HYY.out.below b9)
  clear b9
  have HR1 := Lib.hid (R1.out.lt)
  obtain ⟨X1, hX1⟩ : ∃ X1, X1 = w9.alloc (.cells #[.pointer (some ⟨g1, 0, none⟩), .pointer (some ⟨g2, 0, none⟩)] 28) := ⟨_, rfl⟩
  have bX : Below w9.heap.size w9 X1 := by rw [hX1]; exact (Below.refl _ _).alloc (Nat.le_refl _) _
  have hrows := rows_own (Z := fun _ => True) (w := w9) (B := 0) (n := 2) [some A, some D] [.pointer (some ⟨g1, 0, none⟩), .pointer (some ⟨g2, 0, none⟩)] rfl rfl (Nat.zero_le _) (by decide) (fun i hi => by
    match i, hi with
    | 0, _ => exact ⟨g1, gc1, _, _, rfl, R1.out.any, trivial, trivial⟩
    | 1, _ => exact ⟨g2, gc2, _, _, rfl, R2.out.any, trivial, trivial⟩) (fun _ _ => trivial)
  rw [← hX1] at hrows
  have HJ := Lib.hid (fjoin_any (fun _ => True) _ [some A, some D] X1 (HRE.out.below (B.out.trans (bX.mono B.out.size))) hrows)
  replace B := Lib.hid (B.out.trans (bX.mono B.out.size))
  replace R1 := Lib.hid (R1.out.below bX)
  replace R2 := Lib.hid (R2.out.below bX)
  replace HXX := Lib.hid (HXX.out.below bX)
  replace HYY := Lib.hid (HYY.out.below bX)
  clear bX
  subst hX1
  clear hrows
  have HCT := Lib.hid (show catL [some A, some D] [some A, some D].length = T by rw [show [some A, some D].length = 2 from rfl, cat_two, HAD.out])
  have HJG := Lib.hid (show JoinGood [some A, some D] from ⟨fun j hj => by
    match j, hj with
    | 0, _ => simp
    | 1, _ => simp, by rw [HCT.out, HTL.out]; exact HLL.out.1, by rw [HCT.out, HTL.out]; have := HLL.out; omega⟩)
  go_wp2_with fail
  refine HJ.out.mono ?_
  rintro e wa ⟨hj, _⟩
  obtain ⟨g3, gc3, rfl, hr3, ba⟩ := hj HJG.out
  rw [HCT.out] at hr3
  have R3 := Lib.hid hr3
  replace B := Lib.hid (B.out.trans (ba.mono B.out.size))
  replace R1 := Lib.hid (R1.out.below ba)
  replace R2 := Lib.hid (R2.out.below ba)
  replace HXX := Lib.hid (HXX.out.below ba)
  replace HYY := Lib.hid (HYY.out.below ba)
  clear ba
  clear hr3 HJ
  go_wp2_with fail
  refine (rcells_any _ _ g3 gc3 _ _ _ R3.out).mono ?_
  rintro e wb ⟨vb, rfl, hob, bb⟩
  have HB3 := Lib.hid (hob.held (fun b hb _ => hb))
  replace B := Lib.hid (B.out.trans (bb.mono B.out.size))
  replace R1 := Lib.hid (R1.out.below bb)
  replace R2 := Lib.hid (R2.out.below bb)
  replace R3 := Lib.hid (R3.out.below bb)
  replace HXX := Lib.hid (HXX.out.below bb)
  replace HYY := Lib.hid (HYY.out.below bb)
  clear bb
  clear hob
  obtain ⟨xo, xc, hxe⟩ := HXX.out.len
  obtain ⟨yo, yc, hye⟩ := HYY.out.len
  subst hxe
  subst hye
  obtain ⟨X2, hX2⟩ : ∃ X2, X2 = wb.alloc (.cells #[] 27) := ⟨_, rfl⟩
  have bY : Below wb.heap.size wb X2 := by rw [hX2]; exact (Below.refl _ _).alloc (Nat.le_refl _) _
  have HO2 := Lib.hid (show OwnE cellE (fun _ => True) X2 wb.heap.size 27 (.slice (some ⟨wb.heap.size, 0, none⟩) 0 0) [] from by rw [hX2]; exact OwnE.fresh0 wb 27 (Nat.le_refl _))
  have HXL := Lib.hid (HXX.out.lower.below bY)
  have HYL := Lib.hid (HYY.out.lower.below bY)
  have HU1 := Lib.hid (show HeldE cellE (fun b => True ∧ (Value.slice (some ⟨wb.heap.size, 0, none⟩) 0 0).ownBlock ≠ some b) X2 (.slice xo A.length xc) A from HXL.out.zone (fun b _ h => ⟨trivial, fun e => by simp [Value.ownBlock] at e; omega⟩))
  have HS2 := Lib.hid bY.size
  have HBY := Lib.hid bY
  clear bY
  subst hX2
  go_wp2_with (at_builtin; refine wpList_append_g (E := cellE) (Z := fun _ => True) (by rfl) (.tmp 92) (.tmp 93) 22 rfl (.agg #[.int .i64 0, .slice none 0 0]) 32 Tryd.underlying22 info_cell rfl (by decide) rfl rfl HO2.out HU1.out (by have := HTK.out; simp only [List.length_nil, Nat.zero_add]; omega) (by have := HTK.out; simp only [List.length_nil, Nat.zero_add]; omega) HS2.out ?_)
  intro v5 w5 ho5 b5 _ _
  have hlo := ho5.lt
  have HU2 := Lib.hid (show HeldE cellE (fun b => True ∧ v5.ownBlock ≠ some b) w5 (.slice yo D.length yc) D from (HYL.out.kept ((KeepZ.below b5).mono fun b _ h => h)).zone (fun b _ h => ⟨trivial, fun e => by have := (hlo b e).1; omega⟩))
  have HO5 := Lib.hid ho5
  have HS5 := Lib.hid (Nat.le_trans HS2.out b5.size)
  have HBZ := Lib.hid (HBY.out.trans b5)
  obtain ⟨vo, vc, rfl⟩ := (ho5.held (Z := fun _ => True) (fun _ _ _ => trivial)).len
  clear ho5 b5 hlo
  go_wp2_with (at_builtin; refine wpList_append_g (E := cellE) (Z := fun _ => True) (by rfl) (.tmp 94) (.tmp 95) 22 rfl (.agg #[.int .i64 0, .slice none 0 0]) 32 Tryd.underlying22 info_cell rfl (by decide) rfl rfl HO5.out HU2.out (by have := HTK.out; omega) (by have := HTK.out; omega) HS5.out ?_)
  intro v6 wz ho6 b6 _ _
  rw [HAD.out] at ho6
  have H6Z := Lib.hid (ho6.held (Z := fun _ => True) (fun _ _ _ => trivial))
  have bz := HBZ.out.trans b6
  replace B := Lib.hid (B.out.trans (bz.mono B.out.size))
  replace R1 := Lib.hid (R1.out.below bz)
  replace R2 := Lib.hid (R2.out.below bz)
  replace R3 := Lib.hid (R3.out.below bz)
  replace HB3 := Lib.hid (HB3.out.below bz)
  clear bz
  clear ho6 b6
  obtain ⟨zo, zc9, hze⟩ := H6Z.out.len
  subst hze
  go_wp2_with fail
  refine (rcsame_any _ _ _ _ _ _ _ HB3.out H6Z.out).mono ?_
  rintro e wd ⟨rfl, bd⟩
  rw [sameC_self]
  replace B := Lib.hid (B.out.trans (bd.mono B.out.size))
  replace R1 := Lib.hid (R1.out.below bd)
  replace R2 := Lib.hid (R2.out.below bd)
  replace R3 := Lib.hid (R3.out.below bd)
  clear bd
  have HTT := Lib.hid (fun (h : (L.getD k zc).1 ≠ 3) => show T = L by rw [HT.out]; exact tear_out h)
  obtain ⟨b9, off9, tv9, e9, hb9, _, k9, _, _⟩ := HAT.out k hkl
  cases e9
  have k9 := (B.out.cell (p := ⟨b9, off9 + k * 2, none⟩) hb9).trans k9
  obtain ⟨K, hK⟩ : ∃ K, K = (L.getD k zc).1 := ⟨_, rfl⟩
  rw [← hK] at k9 HTT
  clear hK
  have HJ2 := Lib.hid (show ∀ we, Below wd.heap.size wd we → Calls Tryd.prog 51 #[.slice (some ⟨we.heap.size, 0, none⟩) 3 3] (we.alloc (.cells #[.pointer (some ⟨g1, 0, none⟩), .pointer none, .pointer (some ⟨g2, 0, none⟩)] 28)) (fun e w' => e = .returned (.pointer none) ∧ Below we.heap.size we w') from fun we be => by
    have bX := (Below.refl we.heap.size we).alloc (Nat.le_refl _) (.cells #[.pointer (some ⟨g1, 0, none⟩), .pointer none, .pointer (some ⟨g2, 0, none⟩)] 28)
    have hrows := rows_own (Z := fun _ => True) (w := we) (B := 0) (n := 3) [some A, none, some D] [.pointer (some ⟨g1, 0, none⟩), .pointer none, .pointer (some ⟨g2, 0, none⟩)] rfl rfl (Nat.zero_le _) (by decide) (fun i hi => by
      match i, hi with
      | 0, _ => exact ⟨g1, gc1, _, _, rfl, (R1.out.below be).any, trivial, trivial⟩
      | 1, _ => rfl
      | 2, _ => exact ⟨g2, gc2, _, _, rfl, (R2.out.below be).any, trivial, trivial⟩) (fun _ _ => trivial)
    refine (fjoin_any (fun _ => True) _ [some A, none, some D] _ (HRE.out.below ((B.out.trans (be.mono B.out.size)).trans (bX.mono (Nat.le_trans B.out.size be.size)))) hrows).mono ?_
    rintro e w' ⟨_, hj⟩
    obtain ⟨rfl, bj⟩ := hj (fun h => h.1 1 (by simp) rfl)
    exact ⟨rfl, bX.trans (bj.mono bX.size)⟩)
  by_cases hK3 : K = 3
  · subst hK3
    have HJ3 := Lib.hid (HJ2.out wd (Below.refl _ _))
    go_wp2_with fail
    refine HJ3.out.mono ?_
    rintro e we ⟨rfl, be⟩
    replace B := Lib.hid (B.out.trans (be.mono B.out.size))
    clear be
    go_wp2
    go_ret
    exact ⟨(ret_eq (by first | rfl | (simp <;> omega))), B.out⟩
  · have hkb : (K == 3) = false := by rw [beq_eq_false_iff_ne]; exact hK3
    have HTT2 := Lib.hid (HTT.out hK3)
    clear hK3
    go_wp2_with fail
    refine (rcells_any _ _ g3 gc3 _ _ _ R3.out).mono ?_
    rintro e we ⟨ve, rfl, hoe, be⟩
    have HE := Lib.hid (hoe.held (fun b hb _ => hb))
    have HBE := Lib.hid be
    replace B := Lib.hid (B.out.trans (be.mono B.out.size))
    clear be
    clear hoe
    go_wp2_with fail
    have hsm := rcsame_any _ _ _ _ _ _ _ HE.out (HA.out.below B.out)
    rw [HTT2.out, sameC_self] at hsm
    refine hsm.mono ?_
    rintro e wf ⟨rfl, bf⟩
    have HJ3 := Lib.hid (HJ2.out wf (HBE.out.trans (bf.mono HBE.out.size)))
    replace B := Lib.hid (B.out.trans (bf.mono B.out.size))
    clear bf
    clear hsm k9 hkb
    go_wp2_with fail
    refine HJ3.out.mono ?_
    rintro e wg ⟨rfl, bg⟩
    replace B := Lib.hid (B.out.trans (bg.mono B.out.size))
    clear bg
    go_wp2
    go_ret
    exact ⟨(ret_eq (by first | rfl | (simp <;> omega))), B.out⟩
set_option maxRecDepth 100000 in
theorem walk {H : Type} {enc : TypeId × Value → H} (W : World) (u : Value) {base : Nat} {d : DataW H} {p : List MemPlace} (hv : Value.okWide Tryd.prog W .any base 22 u) (h : DataW.Trod enc Tryd.prog W 0 (fun _ => true) true 22 u d p) (n : Int) (_ : (Lit.int .i64 n).wf = true) (hl : laidMetH Tryd.prog Rows.fitSplitsRow.laid W) : Calls Tryd.prog 11 #[u, .int .i64 n] W (Yes W) := by
  obtain ⟨L, hL, _⟩ := cells_arg hv h
  exact walkH W u L _ hL n (range_of_row hl)

theorem door_met (os : Os) : laidMetH Tryd.prog Rows.fitSplitsRow.laid ((World.doorLaid Tryd.prog 400 os).forCall (fun _ _ => 0) ⟨#[], #[.slice none 0 0, .int .i64 0], []⟩).memory :=
  laidMetH_of_parts3 (fuel := 8) (laidMet_of_run' 8 (by kernel_rfl) (by kernel_rfl)) (by kernel_rfl) (by kernel_rfl)

set_option maxRecDepth 100000 in
theorem lifted (os : Os) (started : os.Started) (H : Type) (enc : TypeId × Value → H) :
    ReturnsInHanded {} Tryd.checked os 11 .any (fun w args => (Rows.fitSplitsSpec.pre enc Tryd.prog Tryd.f11 [] false w args ∧ laidMetH Tryd.prog Rows.fitSplitsRow.laid w) ∧ sizedMet enc Tryd.prog Tryd.f11 (OpenSpec.ofChange Rows.fitSplitsSpec) false w args)
      (Rows.fitSplitsSpec.post enc Tryd.prog Tryd.f11 false true false false) := by
  refine law_frame (C := Tryd.checked) (tb := 4) (by kernel_rfl) started (by kernel_rfl) Tryd.func11 (by kernel_rfl) (by kernel_rfl) Tryd.underlying4 rfl
    (by rw [Tryd.params11]; intro t ht; simp at ht; rcases ht with rfl | rfl <;> exact ⟨by kernel_rfl, of_decide_eq_true (by kernel_rfl)⟩)
    (by rw [Tryd.params11]; intro ds hd; match ds, hd with | [_, _], _ => rfl)
    (ChangeSpec.witness_shaped (enc := enc) (C := Tryd.checked) (os := os) (X := fun w _ => laidMetH Tryd.prog Rows.fitSplitsRow.laid w) false (World.doorLaid Tryd.prog 400 os) #[.slice none 0 0, .int .i64 0] 8 rfl (World.shaped_of_RefB (by kernel_rfl) (by kernel_rfl)) (by kernel_rfl) (by kernel_rfl) (by kernel_rfl) (door_met os)) ?_
  intro W base args ds before hval hA hsz hL
  rw [Tryd.params11] at hA hval
  obtain ⟨v0, vs0, d0, ds0, p0, q0, hargs, rfl, rfl, h0, r0⟩ := trodAll_cons hA
  obtain ⟨v1, vs1, d1, ds1, p1, q1, rfl, rfl, rfl, h1, r1⟩ := trodAll_cons r0
  obtain ⟨rfl, rfl, rfl⟩ := trodAll_nil r1
  obtain rfl : args = #[v0, v1] := by cases args; simp_all
  obtain ⟨x1, rfl, rfl, rfl, wx1⟩ := open_int Tryd.underlying3 (hval 1 3 v1 rfl rfl) h1
  exact walk W v0 (hval 0 22 v0 rfl rfl) h0 x1 wx1 hL

theorem said : Rows.FitSplitsSaid :=
  OpenClaim.holds_of_wide 11 Tryd.f11 rfl rfl rfl rfl rfl rfl rfl ⟨rfl, rfl, rfl, rfl, rfl⟩ rfl rfl rfl rfl rfl (by kernel_rfl) Tryd.func11 (by kernel_rfl)
    (of_decide_eq_true (by kernel_rfl)) (by unfold Func.isWrapper; first | (rw [if_pos (by decide +kernel)]; kernel_rfl) | (rw [if_neg (by decide +kernel)]; exact ⟨rfl, rfl⟩))
    (fun os started H enc _ => lifted os started H enc)

theorem plain (f : FuncId) (fn : Func) (hf : Tryd.pinned.checked.prog.funcNamed "linotype/linotypelaw28.FitSplits" = some f) (hfn : Tryd.pinned.checked.prog.funcs[f]? = some fn) :
    true = Tryd.pinned.checked.prog.looks [] ∧ ∀ (j : Nat) t, fn.params[j]? = some t → Tryd.pinned.checked.prog.wantsStandIn t = false := by
  obtain rfl : f = 11 := Option.some.inj ((show Tryd.prog.funcNamed "linotype/linotypelaw28.FitSplits" = some 11 by kernel_rfl).symm.trans hf) |>.symm
  obtain rfl : fn = Tryd.f11 := (Option.some.inj (Tryd.func11.symm.trans hfn)).symm
  refine ⟨by kernel_rfl, fun j t ht => ?_⟩
  rw [Tryd.params11] at ht
  have hm : t ∈ [22, 3] := by simpa using Array.mem_of_getElem? ht
  have hall : ([22, 3].all fun u => !Tryd.prog.wantsStandIn u) = true := by kernel_rfl
  exact (show Tryd.prog.wantsStandIn t = false by simpa using List.all_eq_true.1 hall t hm)

/-- THE CARD. -/
theorem card : Rows.FitSplitsCardSaid :=
  Claim7.holds_tied_plain_at .later [] _ _ _ _ said (fun _ h => by cases h) (by kernel_rfl) (fun _ h => by cases h) fitSplits_row_tie rfl ⟨rfl, rfl⟩ (by kernel_rfl) rfl plain (by kernel_rfl)
#print axioms card

end Go.Proofs.YtomfclkldmmmgaaDoor.lawFitSplits
