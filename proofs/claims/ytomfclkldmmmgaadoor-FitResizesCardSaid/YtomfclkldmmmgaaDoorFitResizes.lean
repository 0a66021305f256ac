/- FitResizes (28.1, 28.4) answers true at every sound row and every width, and turns nothing. Condition: ErrRange reads as its initialiser lays it (tied to the program's text by the card). -/
import Derived.Test.YtomfclkldmmmgaaDoorFitW
import Derived.Test.YtomfclkldmmmgaaDoorFitR
import Derived.Test.YtomfclkldmmmgaaDoorCellU
import Derived.Test.YtomfclkldmmmgaaDoorCellS
import Derived.Test.YtomfclkldmmmgaaDoorErrS
import Derived.Test.YtomfclkldmmmgaaDoorCards
import Derived.Test.YtomfclkldmmmgaaDoorTie
import Derived.ProofKit
import Derived.Lib.MinMax
namespace Go.Proofs.YtomfclkldmmmgaaDoor.lawFitResizes
open Go.ChangeShapes Go.WideShapes Go.ChangeAt Go.RowKit
theorem rsz_back (L : List Cl) (N : Nat) (h : L.length ≤ N) (hs : soundB L = true) (hl : L.length ≤ 1024) (h0 : 0 < L.length) : rszL (rszL L N) (rowN L.length) = L := by
  have hn : rowN (L.length : Int) = L.length := by unfold rowN; omega
  rw [hn]
  have hf : fixL L = L := fix_none hs
  have e : (rszL L N).take L.length = L := by
    unfold rszL
    split
    · rw [List.take_left']
      rfl
    · have : N = L.length := by omega
      subst this
      rw [List.take_of_length_le (Nat.le_refl _), hf, List.take_of_length_le (Nat.le_refl _)]
  rw [show rszL (rszL L N) L.length = fixL ((rszL L N).take L.length) from by
    rw [show rszL (rszL L N) L.length = if (rszL L N).length < L.length then _ else fixL ((rszL L N).take L.length) from rfl, if_neg (by rw [rsz_len]; omega)], e, hf]
set_option maxRecDepth 100000 in
set_option maxHeartbeats 8000000 in
theorem walkH (W : World) (va : Value) (L : List Cl) (Z : Zone) (ha : HeldE cellE Z W va L) (n : Int) (hre : RangeErr W) : Calls Tryd.prog 10 #[va, .int .i64 n] W (Yes W) := by
  have hla := ha.max
  have ha := ha.lower
  obtain ⟨ao, ca, rfl⟩ := ha.len
  obtain ⟨_, hca, hca2, hao, _⟩ := id ha
  have HA := Lib.hid ha
  have HRE := Lib.hid hre
  clear ha hre
  by_cases h1 : 200 < L.length
  · go_enter Tryd.func10, Tryd.ntmps10
    go_wp2_with fail
    refine (works28_any _ HRE.out).mono ?_
    rintro e w1 ⟨rfl, b1⟩
    go_wp2_with fail
    refine (works28_any _ (HRE.out.below b1)).mono ?_
    rintro e w2 ⟨rfl, b2⟩
    have b2 := b1.trans (b2.mono b1.size)
    go_wp2
    go_ret
    exact ⟨(ret_eq (by first | rfl | (simp <;> omega))), b2⟩
  have hd60 : decide ((200 : Int) < L.length) = false := by simp; omega
  by_cases h0 : L.length = 0
  · have hz : ((L.length : Int) == 0) = true := by rw [beq_iff_eq]; omega
    go_enter Tryd.func10, Tryd.ntmps10
    go_wp2_with fail
    refine (works28_any _ HRE.out).mono ?_
    rintro e w1 ⟨rfl, b1⟩
    go_wp2_with fail
    refine (works28_any _ (HRE.out.below b1)).mono ?_
    rintro e w2 ⟨rfl, b2⟩
    have b2 := b1.trans (b2.mono b1.size)
    go_wp2
    go_ret
    exact ⟨(ret_eq (by first | rfl | (simp <;> omega))), b2⟩
  have hz : ((L.length : Int) == 0) = false := by rw [beq_eq_false_iff_ne]; omega
  by_cases hs : soundB L = false
  · go_enter Tryd.func10, Tryd.ntmps10
    go_wp2_with fail
    refine (works28_any _ HRE.out).mono ?_
    rintro e w1 ⟨rfl, b1⟩
    have hse := rsound_any _ _ _ _ (HA.out.below b1)
    rw [← sound_iff, hs] at hse
    go_wp2_with fail
    refine hse.mono ?_
    rintro e w2 ⟨rfl, b2⟩
    have b2 := b1.trans (b2.mono b1.size)
    go_wp2_with fail
    refine (works28_any _ (HRE.out.below b2)).mono ?_
    rintro e w3 ⟨rfl, b3⟩
    have b3 := b2.trans (b3.mono b2.size)
    go_wp2
    go_ret
    exact ⟨(ret_eq (by first | rfl | (simp <;> omega))), b3⟩
  have hs : soundB L = true := by simpa using hs
  have HS := Lib.hid hs
  have HLL := Lib.hid (show 0 < L.length ∧ L.length ≤ 200 by omega)
  go_enter Tryd.func10, Tryd.ntmps10
  go_wp2_with fail
  refine (works28_any _ HRE.out).mono ?_
  rintro e w1 ⟨rfl, b1⟩
  have hse := rsound_any _ _ _ _ (HA.out.below b1)
  rw [← sound_iff, hs] at hse
  clear hs
  go_wp2_with fail
  refine hse.mono ?_
  rintro e w2 ⟨rfl, b2⟩
  have B := Lib.hid (b1.trans (b2.mono b1.size))
  clear b1 b2 hse
  have HP := Lib.hid (rof_ok _ _ _ _ (HA.out.below B.out) HLL.out.1 (by have := HLL.out; omega) HS.out)
  go_wp2_with fail
  clear hd60 hz h1 h0
  refine HP.out.mono ?_
  rintro e w3 ⟨g, gc, rfl, hr3, b3⟩
  have hr3 := hr3.any
  have hlt := hr3.lt
  have HLT := Lib.hid (show W.heap.size ≤ g ∧ W.heap.size ≤ gc ∧ g < w3.heap.size ∧ gc < w3.heap.size from by have := B.out.size; omega)
  replace B := Lib.hid (B.out.trans (b3.mono B.out.size))
  clear b3
  have R := Lib.hid hr3
  clear hr3 hlt HP
  have HG := Lib.hid (rgoon_any _ _ g gc _ _ true w3 R.out)
  go_wp2_with fail
  refine HG.out.mono ?_
  rintro e w4 ⟨rfl, hr4, u4⟩
  replace R := Lib.hid hr4
  replace B := Lib.hid (B.out.upd u4 B.out.size (fun x e => by have := HLT.out; rcases e with e | e <;> omega))
  clear hr4 u4 HG
  have HZ5 := Lib.hid (fresize_any _ g gc _ _ n w4 R.out)
  go_wp2_with fail
  refine HZ5.out.mono ?_
  rintro e w5 ⟨g5, gc5, rfl, hr5, b5⟩
  have S := Lib.hid hr5
  replace B := Lib.hid (B.out.trans (b5.mono B.out.size))
  replace R := Lib.hid (R.out.below b5)
  clear b5
  clear hr5 HZ5
  go_wp2_with fail
  refine (rcells_any _ _ g5 gc5 _ _ _ S.out).mono ?_
  rintro e w6 ⟨v6, rfl, ho6, b6⟩
  have H6 := Lib.hid (ho6.held (fun b hb _ => hb))
  replace B := Lib.hid (B.out.trans (b6.mono B.out.size))
  replace R := Lib.hid (R.out.below b6)
  replace S := Lib.hid (S.out.below b6)
  clear b6
  clear ho6
  have HQ := Lib.hid (rresize_any (fun _ => True) _ L n w6 (fun _ _ => trivial) ((HA.out.below B.out).zone (fun _ _ _ => trivial)) HS.out)
  go_wp2_with fail
  refine HQ.out.mono ?_
  rintro e w7 ⟨v7, rfl, ho7, b7⟩
  have H7 := Lib.hid (ho7.held (fun b hb _ => trivial))
  replace B := Lib.hid (B.out.trans (b7.mono B.out.size))
  replace R := Lib.hid (R.out.below b7)
  replace S := Lib.hid (S.out.below b7)
  replace H6 := Lib.hid (H6.out.below b7)
  clear b7
  clear ho7 HQ
  go_wp2_with fail
  refine (rcsame_any _ _ _ _ _ _ _ H6.out H7.out).mono ?_
  rintro e w8 ⟨rfl, b8⟩
  rw [sameC_self]
  replace B := Lib.hid (B.out.trans (b8.mono B.out.size))
  replace R := Lib.hid (R.out.below b8)
  replace S := Lib.hid (S.out.below b8)
  clear b8
  go_wp2_with fail
  refine (rwrap_any _ _ g5 gc5 _ _ _ S.out).mono ?_
  rintro e w9 ⟨rfl, rfl⟩
  go_wp2_with fail
  refine (rwrap_any _ _ g gc _ _ _ R.out).mono ?_
  rintro e w9 ⟨rfl, rfl⟩
  go_wp2_with fail
  refine (rcells_any _ _ g gc _ _ _ R.out).mono ?_
  rintro e w9 ⟨v9, rfl, ho9, b9⟩
  have H9 := Lib.hid (ho9.held (fun b hb _ => hb))
  replace B := Lib.hid (B.out.trans (b9.mono B.out.size))
  replace R := Lib.hid (R.out.below b9)
  replace S := Lib.hid (S.out.below b9)
  clear b9
  clear ho9
  go_wp2_with fail
  refine (rcsame_any _ _ _ _ _ _ _ H9.out (HA.out.below B.out)).mono ?_
  rintro e wa ⟨rfl, ba⟩
  rw [sameC_self]
  replace B := Lib.hid (B.out.trans (ba.mono B.out.size))
  replace R := Lib.hid (R.out.below ba)
  replace S := Lib.hid (S.out.below ba)
  clear ba
  have HRN := Lib.hid (rsz_len L (rowN n))
  have HLL2 := Lib.hid (show L.length ≤ 1024 by have := HLL.out; omega)
  have hll : L.length ≤ 200 := HLL.out.2
  by_cases hlt : rowN n < L.length
  · have hd : decide ((rowN n : Int) < (L.length : Int)) = true := by simp; omega
    go_wp2_with fail
    refine (rwide_any _ _ g5 gc5 _ _ _ S.out).mono ?_
    rintro e wb ⟨rfl, rfl⟩
    rw [HRN.out]
    go_wp2
    go_ret
    exact ⟨(ret_eq (by first | rfl | (simp <;> omega))), B.out⟩
  · have hd : decide ((rowN n : Int) < (L.length : Int)) = false := by simp; omega
    have hdn : decide (rowN n < L.length) = false := by simp; omega
    go_wp2_with fail
    refine (rwide_any _ _ g5 gc5 _ _ _ S.out).mono ?_
    rintro e wb ⟨rfl, rfl⟩
    rw [HRN.out]
    have HZB := Lib.hid (fresize_any _ g5 gc5 _ _ (L.length : Int) _ S.out.any)
    rw [rsz_back L (rowN n) (by omega) HS.out HLL2.out HLL.out.1] at HZB
    go_wp2_with fail
    refine HZB.out.mono ?_
    rintro e wc ⟨g6, gc6, rfl, hr6, b6⟩
    have T := Lib.hid hr6
    replace B := Lib.hid (B.out.trans (b6.mono B.out.size))
    clear b6
    clear hr6 HZB hd hdn
    go_wp2_with fail
    refine (rcells_any _ _ g6 gc6 _ _ _ T.out).mono ?_
    rintro e wd ⟨vd, rfl, hod, bd⟩
    have HD := Lib.hid (hod.held (fun b hb _ => hb))
    replace B := Lib.hid (B.out.trans (bd.mono B.out.size))
    clear bd
    clear hod
    go_wp2_with fail
    refine (rcsame_any _ _ _ _ _ _ _ HD.out (HA.out.below B.out)).mono ?_
    rintro e we ⟨rfl, be⟩
    rw [sameC_self]
    replace B := Lib.hid (B.out.trans (be.mono B.out.size))
    clear be
    go_wp2
    go_ret
    exact ⟨(ret_eq (by first | rfl | (simp <;> omega))), B.out⟩
set_option maxRecDepth 100000 in
theorem walk {H : Type} {enc : TypeId × Value → H} (W : World) (u : Value) {base : Nat} {d : DataW H} {p : List MemPlace} (hv : Value.okWide Tryd.prog W .any base 22 u) (h : DataW.Trod enc Tryd.prog W 0 (fun _ => true) true 22 u d p) (n : Int) (_ : (Lit.int .i64 n).wf = true) (hl : laidMetH Tryd.prog Rows.fitResizesRow.laid W) : Calls Tryd.prog 10 #[u, .int .i64 n] W (Yes W) := by
  obtain ⟨L, hL, _⟩ := cells_arg hv h
  exact walkH W u L _ hL n (range_of_row hl)

theorem door_met (os : Os) : laidMetH Tryd.prog Rows.fitResizesRow.laid ((World.doorLaid Tryd.prog 400 os).forCall (fun _ _ => 0) ⟨#[], #[.slice none 0 0, .int .i64 0], []⟩).memory :=
  laidMetH_of_parts3 (fuel := 8) (laidMet_of_run' 8 (by kernel_rfl) (by kernel_rfl)) (by kernel_rfl) (by kernel_rfl)

set_option maxRecDepth 100000 in
theorem lifted (os : Os) (started : os.Started) (H : Type) (enc : TypeId × Value → H) :
    ReturnsInHanded {} Tryd.checked os 10 .any (fun w args => (Rows.fitResizesSpec.pre enc Tryd.prog Tryd.f10 [] false w args ∧ laidMetH Tryd.prog Rows.fitResizesRow.laid w) ∧ sizedMet enc Tryd.prog Tryd.f10 (OpenSpec.ofChange Rows.fitResizesSpec) false w args)
      (Rows.fitResizesSpec.post enc Tryd.prog Tryd.f10 false true false false) := by
  refine law_frame (C := Tryd.checked) (tb := 4) (by kernel_rfl) started (by kernel_rfl) Tryd.func10 (by kernel_rfl) (by kernel_rfl) Tryd.underlying4 rfl
    (by rw [Tryd.params10]; intro t ht; simp at ht; rcases ht with rfl | rfl <;> exact ⟨by kernel_rfl, of_decide_eq_true (by kernel_rfl)⟩)
    (by rw [Tryd.params10]; intro ds hd; match ds, hd with | [_, _], _ => rfl)
    (ChangeSpec.witness_shaped (enc := enc) (C := Tryd.checked) (os := os) (X := fun w _ => laidMetH Tryd.prog Rows.fitResizesRow.laid w) false (World.doorLaid Tryd.prog 400 os) #[.slice none 0 0, .int .i64 0] 8 rfl (World.shaped_of_RefB (by kernel_rfl) (by kernel_rfl)) (by kernel_rfl) (by kernel_rfl) (by kernel_rfl) (door_met os)) ?_
  intro W base args ds before hval hA hsz hL
  rw [Tryd.params10] at hA hval
  obtain ⟨v0, vs0, d0, ds0, p0, q0, hargs, rfl, rfl, h0, r0⟩ := trodAll_cons hA
  obtain ⟨v1, vs1, d1, ds1, p1, q1, rfl, rfl, rfl, h1, r1⟩ := trodAll_cons r0
  obtain ⟨rfl, rfl, rfl⟩ := trodAll_nil r1
  obtain rfl : args = #[v0, v1] := by cases args; simp_all
  obtain ⟨x1, rfl, rfl, rfl, wx1⟩ := open_int Tryd.underlying3 (hval 1 3 v1 rfl rfl) h1
  exact walk W v0 (hval 0 22 v0 rfl rfl) h0 x1 wx1 hL

theorem said : Rows.FitResizesSaid :=
  OpenClaim.holds_of_wide 10 Tryd.f10 rfl rfl rfl rfl rfl rfl rfl ⟨rfl, rfl, rfl, rfl, rfl⟩ rfl rfl rfl rfl rfl (by kernel_rfl) Tryd.func10 (by kernel_rfl)
    (of_decide_eq_true (by kernel_rfl)) (by unfold Func.isWrapper; first | (rw [if_pos (by decide +kernel)]; kernel_rfl) | (rw [if_neg (by decide +kernel)]; exact ⟨rfl, rfl⟩))
    (fun os started H enc _ => lifted os started H enc)

theorem plain (f : FuncId) (fn : Func) (hf : Tryd.pinned.checked.prog.funcNamed "linotype/linotypelaw28.FitResizes" = some f) (hfn : Tryd.pinned.checked.prog.funcs[f]? = some fn) :
    true = Tryd.pinned.checked.prog.looks [] ∧ ∀ (j : Nat) t, fn.params[j]? = some t → Tryd.pinned.checked.prog.wantsStandIn t = false := by
  obtain rfl : f = 10 := Option.some.inj ((show Tryd.prog.funcNamed "linotype/linotypelaw28.FitResizes" = some 10 by kernel_rfl).symm.trans hf) |>.symm
  obtain rfl : fn = Tryd.f10 := (Option.some.inj (Tryd.func10.symm.trans hfn)).symm
  refine ⟨by kernel_rfl, fun j t ht => ?_⟩
  rw [Tryd.params10] at ht
  have hm : t ∈ [22, 3] := by simpa using Array.mem_of_getElem? ht
  have hall : ([22, 3].all fun u => !Tryd.prog.wantsStandIn u) = true := by kernel_rfl
  exact (show Tryd.prog.wantsStandIn t = false by simpa using List.all_eq_true.1 hall t hm)

/-- THE CARD. -/
theorem card : Rows.FitResizesCardSaid :=
  Claim7.holds_tied_plain_at .later [] _ _ _ _ said (fun _ h => by cases h) (by kernel_rfl) (fun _ h => by cases h) fitResizes_row_tie rfl ⟨rfl, rfl⟩ (by kernel_rfl) rfl plain (by kernel_rfl)
#print axioms card

end Go.Proofs.YtomfclkldmmmgaaDoor.lawFitResizes
