/- ItemsRead (29.1, 29.3) answers true at every strip, and turns nothing. Conditions: api's eight errors read as their initialisers lay them (tied to the program's text by the card). -/
import Derived.Test.YtmclmhdlnlcafaaDoorItmD
import Derived.Test.YtmclmhdlnlcafaaDoorCellU
import Derived.Test.YtmclmhdlnlcafaaDoorCellS
import Derived.Test.YtmclmhdlnlcafaaDoorErrS
import Derived.Test.YtmclmhdlnlcafaaDoorMg1
import Derived.Test.YtmclmhdlnlcafaaDoorCards
import Derived.Test.YtmclmhdlnlcafaaDoorTie
import Derived.ProofKit
namespace Go.Proofs.YtmclmhdlnlcafaaDoor.lawItemsRead
open Go.ChangeShapes Go.WideShapes Go.ChangeAt Go.RowKit
set_option maxRecDepth 100000 in
set_option maxHeartbeats 3000000 in
theorem walkH (W : World) (va : Value) (L : List Cl) (Z : Zone) (ha : HeldE cellE Z W va L) (sa : Nat → Addr) (hsa : Sents W sa) : Calls Tryd.prog 6 #[va] W (Yes W) := by
  have hla := ha.max
  have ha := ha.lower
  obtain ⟨ao, ca, rfl⟩ := ha.len
  have HA := Lib.hid ha
  have HSA := Lib.hid hsa
  clear ha hsa
  by_cases h1 : 500 < L.length
  · go_enter Tryd.func6, Tryd.ntmps6
    go_wp2_with fail
    refine (works29_any _).mono ?_
    rintro e w1 ⟨rfl, b1⟩
    go_wp2_with fail
    refine (works29_any _).mono ?_
    rintro e w2 ⟨rfl, b2⟩
    have b2 := b1.trans (b2.mono b1.size)
    go_wp2
    go_ret
    exact ⟨(ret_eq (by first | rfl | (simp <;> omega))), b2⟩
  have hd60 : decide ((500 : Int) < L.length) = false := by simp; omega
  have HLL := Lib.hid (show L.length ≤ 500 by omega)
  cases hs : soundB L with
  | false =>
    have HS := Lib.hid hs
    clear hs
    go_enter Tryd.func6, Tryd.ntmps6
    go_wp2_with fail
    refine (works29_any _).mono ?_
    rintro e w1 ⟨rfl, b1⟩
    have B := Lib.hid b1
    clear b1
    have h2 := iof_bad sa _ _ L w1 (HSA.out.below B.out) (HA.out.below B.out) HS.out
    go_wp2_with fail
    refine h2.mono ?_
    rintro e w2 ⟨rfl, b2⟩
    replace B := Lib.hid (B.out.trans (b2.mono B.out.size))
    clear b2
    have hse := rsound_any _ _ _ _ (HA.out.below B.out)
    rw [← sound_iff, HS.out] at hse
    clear h2
    go_wp2_with fail
    refine hse.mono ?_
    rintro e w3 ⟨rfl, b3⟩
    replace B := Lib.hid (B.out.trans (b3.mono B.out.size))
    clear b3
    have h4 := code_sent sa w3 (HSA.out.below B.out) 4 (by decide)
    clear hse
    go_wp2_with fail
    refine h4.mono ?_
    rintro e w4 ⟨rfl, rfl⟩
    go_wp2
    go_ret
    exact ⟨(ret_eq (by first | rfl | (simp <;> omega))), B.out⟩
  | true =>
    obtain ⟨hir, hst, hwd⟩ := items_of_sound hs
    have HS := Lib.hid hs
    have HIR := Lib.hid hir
    have HST := Lib.hid hst
    have HWD := Lib.hid hwd
    have HIL := Lib.hid (items_len L)
    clear hs hir hst hwd
    go_enter Tryd.func6, Tryd.ntmps6
    go_wp2_with fail
    refine (works29_any _).mono ?_
    rintro e w1 ⟨rfl, b1⟩
    have B := Lib.hid b1
    clear b1
    have h2 := iof_ok _ _ L w1 (HA.out.below B.out) (by have := HLL.out; omega) HS.out
    go_wp2_with fail
    refine h2.mono ?_
    rintro e w2 ⟨v2, rfl, ho2, b2⟩
    have HX := Lib.hid (ho2.held (fun _ h _ => h))
    replace B := Lib.hid (B.out.trans (b2.mono B.out.size))
    clear b2
    clear ho2 h2
    have hse := rsound_any _ _ _ _ (HA.out.below B.out)
    rw [← sound_iff, HS.out] at hse
    go_wp2_with fail
    refine hse.mono ?_
    rintro e w3 ⟨rfl, b3⟩
    replace B := Lib.hid (B.out.trans (b3.mono B.out.size))
    replace HX := Lib.hid (HX.out.below b3)
    clear b3
    clear hse
    have h4 := rof29_any (fun _ => True) _ L w3 (fun _ _ => trivial) ((HA.out.below B.out).zone (fun _ _ _ => trivial)) (by have := HLL.out; omega)
    go_wp2_with fail
    refine h4.mono ?_
    rintro e w4 ⟨v4, rfl, ho4, b4⟩
    have HY := Lib.hid (ho4.held (fun _ _ _ => trivial))
    replace B := Lib.hid (B.out.trans (b4.mono B.out.size))
    replace HX := Lib.hid (HX.out.below b4)
    clear b4
    clear ho4 h4
    have h5 := risame_any _ _ _ _ _ _ w4 HX.out HY.out
    rw [sameC_self] at h5
    go_wp2_with fail
    refine h5.mono ?_
    rintro e w5 ⟨rfl, b5⟩
    replace B := Lib.hid (B.out.trans (b5.mono B.out.size))
    replace HX := Lib.hid (HX.out.below b5)
    clear b5
    clear h5 HY
    have h6 := iwide_any _ _ _ w5 HX.out (by have := HIL.out; have := HLL.out; omega)
    rw [HWD.out] at h6
    go_wp2_with fail
    refine h6.mono ?_
    rintro e w6 ⟨rfl, b6⟩
    replace B := Lib.hid (B.out.trans (b6.mono B.out.size))
    replace HX := Lib.hid (HX.out.below b6)
    clear b6
    clear h6
    have hne : ((L.length : Int) != (L.length : Int)) = false := by simp
    have h7 := icells_ok _ _ _ w6 HX.out (by have := HIL.out; have := HLL.out; omega) HIR.out
    rw [HST.out] at h7
    go_wp2_with fail
    refine h7.mono ?_
    rintro e w7 ⟨v7, rfl, ho7, b7⟩
    have HM := Lib.hid (ho7.held (fun _ h _ => h))
    replace B := Lib.hid (B.out.trans (b7.mono B.out.size))
    clear b7
    clear ho7 h7 hne
    have h8 := rcsame_any _ _ _ _ _ _ w7 HM.out (HA.out.below B.out)
    rw [sameC_self] at h8
    go_wp2_with fail
    refine h8.mono ?_
    rintro e w8 ⟨rfl, b8⟩
    replace B := Lib.hid (B.out.trans (b8.mono B.out.size))
    clear b8
    go_wp2
    go_ret
    exact ⟨(ret_eq (by first | rfl | (simp <;> omega))), B.out⟩
set_option maxRecDepth 100000 in
theorem walk {H : Type} {enc : TypeId × Value → H} (W : World) (u : Value) {base : Nat} {d : DataW H} {p : List MemPlace} (hv : Value.okWide Tryd.prog W .any base 22 u) (h : DataW.Trod enc Tryd.prog W 0 (fun _ => true) true 22 u d p) (hL : laidMetH Tryd.prog Rows.itemsReadRow.laid W) : Calls Tryd.prog 6 #[u] W (Yes W) := by
  obtain ⟨L, hL2, _⟩ := cells_arg hv h
  obtain ⟨sa, hsa⟩ := sents_of_row hL
  exact walkH W u L _ hL2 sa hsa

theorem door_met (os : Os) : laidMetH Tryd.prog Rows.itemsReadRow.laid ((World.doorLaid Tryd.prog 400 os).forCall (fun _ _ => 0) ⟨#[], #[.slice none 0 0], []⟩).memory :=
  laidMetH_of_parts3 (fuel := 8) (laidMet_of_run' 8 (by kernel_rfl) (by kernel_rfl)) (by kernel_rfl) (by kernel_rfl)

set_option maxRecDepth 100000 in
theorem lifted (os : Os) (started : os.Started) (H : Type) (enc : TypeId × Value → H) :
    ReturnsInHanded {} Tryd.checked os 6 .any (fun w args => (Rows.itemsReadSpec.pre enc Tryd.prog Tryd.f6 [] false w args ∧ laidMetH Tryd.prog Rows.itemsReadRow.laid w) ∧ sizedMet enc Tryd.prog Tryd.f6 (OpenSpec.ofChange Rows.itemsReadSpec) false w args)
      (Rows.itemsReadSpec.post enc Tryd.prog Tryd.f6 false true false false) := by
  refine law_frame (C := Tryd.checked) (tb := 4) (by kernel_rfl) started (by kernel_rfl) Tryd.func6 (by kernel_rfl) (by kernel_rfl) Tryd.underlying4 rfl
    (by rw [Tryd.params6]; intro t ht; simp at ht; subst ht <;> exact ⟨by kernel_rfl, of_decide_eq_true (by kernel_rfl)⟩)
    (by rw [Tryd.params6]; intro ds hd; match ds, hd with | [_], _ => rfl)
    (ChangeSpec.witness_shaped (enc := enc) (C := Tryd.checked) (os := os) (X := fun w _ => laidMetH Tryd.prog Rows.itemsReadRow.laid w) false (World.doorLaid Tryd.prog 400 os) #[.slice none 0 0] 8 rfl (World.shaped_of_RefB (by kernel_rfl) (by kernel_rfl)) (by kernel_rfl) (by kernel_rfl) (by kernel_rfl) (door_met os)) ?_
  intro W base args ds before hval hA hsz hL
  rw [Tryd.params6] at hA hval
  obtain ⟨v0, vs0, d0, ds0, p0, q0, hargs, rfl, rfl, h0, r0⟩ := trodAll_cons hA
  obtain ⟨rfl, rfl, rfl⟩ := trodAll_nil r0
  obtain rfl : args = #[v0] := by cases args; simp_all

  exact walk W v0 (hval 0 22 v0 rfl rfl) h0 hL

theorem said : Rows.ItemsReadSaid :=
  OpenClaim.holds_of_wide 6 Tryd.f6 rfl rfl rfl rfl rfl rfl rfl ⟨rfl, rfl, rfl, rfl, rfl⟩ rfl rfl rfl rfl rfl (by kernel_rfl) Tryd.func6 (by kernel_rfl)
    (of_decide_eq_true (by kernel_rfl)) (by unfold Func.isWrapper; first | (rw [if_pos (by decide +kernel)]; kernel_rfl) | (rw [if_neg (by decide +kernel)]; exact ⟨rfl, rfl⟩))
    (fun os started H enc _ => lifted os started H enc)

theorem plain (f : FuncId) (fn : Func) (hf : Tryd.pinned.checked.prog.funcNamed "linotype/linotypelaw29.ItemsRead" = some f) (hfn : Tryd.pinned.checked.prog.funcs[f]? = some fn) :
    true = Tryd.pinned.checked.prog.looks [] ∧ ∀ (j : Nat) t, fn.params[j]? = some t → Tryd.pinned.checked.prog.wantsStandIn t = false := by
  obtain rfl : f = 6 := Option.some.inj ((show Tryd.prog.funcNamed "linotype/linotypelaw29.ItemsRead" = some 6 by kernel_rfl).symm.trans hf) |>.symm
  obtain rfl : fn = Tryd.f6 := (Option.some.inj (Tryd.func6.symm.trans hfn)).symm
  refine ⟨by kernel_rfl, fun j t ht => ?_⟩
  rw [Tryd.params6] at ht
  have hm : t ∈ [22] := by simpa using Array.mem_of_getElem? ht
  have hall : ([22].all fun u => !Tryd.prog.wantsStandIn u) = true := by kernel_rfl
  exact (show Tryd.prog.wantsStandIn t = false by simpa using List.all_eq_true.1 hall t hm)

/-- THE CARD. -/
theorem card : Rows.ItemsReadCardSaid :=
  Claim7.holds_tied_plain_at .later [] _ _ _ _ said (fun _ h => by cases h) (by kernel_rfl) (fun _ h => by cases h) itemsRead_row_tie rfl ⟨rfl, rfl⟩ (by kernel_rfl) rfl plain (by kernel_rfl)
#print axioms card

end Go.Proofs.YtmclmhdlnlcafaaDoor.lawItemsRead
