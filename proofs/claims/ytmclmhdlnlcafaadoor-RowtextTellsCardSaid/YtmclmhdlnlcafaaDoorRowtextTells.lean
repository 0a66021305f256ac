/- RowtextTells (30.1) answers true at every row, and turns nothing. No condition. -/
import Derived.Test.YtmclmhdlnlcafaaDoorTxtN
import Derived.Test.YtmclmhdlnlcafaaDoorCellU
import Derived.Test.YtmclmhdlnlcafaaDoorCellS
import Derived.Test.YtmclmhdlnlcafaaDoorMg1
import Derived.Test.YtmclmhdlnlcafaaDoorCards
import Derived.Test.YtmclmhdlnlcafaaDoorTie
import Derived.ProofKit
namespace Go.Proofs.YtmclmhdlnlcafaaDoor.lawRowtextTells
open Go.ChangeShapes Go.WideShapes Go.ChangeAt Go.RowKit
set_option maxRecDepth 100000 in
set_option maxHeartbeats 3000000 in
theorem walkH (W : World) (va : Value) (L : List Cl) (Z : Zone) (ha : HeldE cellE Z W va L) : Calls Tryd.prog 3 #[va] W (Yes W) := by
  have hla := ha.max
  have ha := ha.lower
  obtain ⟨ao, ca, rfl⟩ := ha.len
  have HA := Lib.hid ha
  clear ha
  by_cases h1 : 200 < L.length
  · go_enter Tryd.func3, Tryd.ntmps3
    go_wp2_with fail
    refine (works30_any _).mono ?_
    rintro e w1 ⟨rfl, b1⟩
    go_wp2_with fail
    refine (works30_any _).mono ?_
    rintro e w2 ⟨rfl, b2⟩
    have b2 := b1.trans (b2.mono b1.size)
    go_wp2
    go_ret
    exact ⟨(ret_eq (by first | rfl | (simp <;> omega))), b2⟩
  have hd60 : decide ((200 : Int) < L.length) = false := by simp; omega
  by_cases h0 : L.length = 0
  · have hz : ((L.length : Int) == 0) = true := by rw [beq_iff_eq]; omega
    go_enter Tryd.func3, Tryd.ntmps3
    go_wp2_with fail
    refine (works30_any _).mono ?_
    rintro e w1 ⟨rfl, b1⟩
    go_wp2_with fail
    refine (works30_any _).mono ?_
    rintro e w2 ⟨rfl, b2⟩
    have b2 := b1.trans (b2.mono b1.size)
    go_wp2
    go_ret
    exact ⟨(ret_eq (by first | rfl | (simp <;> omega))), b2⟩
  have hz : ((L.length : Int) == 0) = false := by rw [beq_eq_false_iff_ne]; omega
  by_cases hs : soundB L = false
  · go_enter Tryd.func3, Tryd.ntmps3
    go_wp2_with fail
    refine (works30_any _).mono ?_
    rintro e w1 ⟨rfl, b1⟩
    have hse := rsound_any _ _ _ _ (HA.out.below b1)
    rw [← sound_iff, hs] at hse
    go_wp2_with fail
    refine hse.mono ?_
    rintro e w2 ⟨rfl, b2⟩
    have b2 := b1.trans (b2.mono b1.size)
    go_wp2_with fail
    refine (works30_any _).mono ?_
    rintro e w3 ⟨rfl, b3⟩
    have b3 := b2.trans (b3.mono b2.size)
    go_wp2
    go_ret
    exact ⟨(ret_eq (by first | rfl | (simp <;> omega))), b3⟩
  have hs : soundB L = true := by simpa using hs
  have HS := Lib.hid hs
  have HLL := Lib.hid (show 0 < L.length ∧ L.length ≤ 200 by omega)
  have HTI := Lib.hid (text_items hs)
  have HPI := Lib.hid (plain_items hs)
  have HIT := Lib.hid (by have := iplain_take hs L.length (Nat.le_refl _); rwa [List.take_length] at this)
  go_enter Tryd.func3, Tryd.ntmps3
  go_wp2_with fail
  refine (works30_any _).mono ?_
  rintro e w1 ⟨rfl, b1⟩
  have hse := rsound_any _ _ _ _ (HA.out.below b1)
  rw [← sound_iff, hs] at hse
  clear hs
  go_wp2_with fail
  refine hse.mono ?_
  rintro e w2 ⟨rfl, b2⟩
  have B := Lib.hid (b1.trans (b2.mono b1.size))
  clear b1 b2 hse
  have HP := Lib.hid (rof_ok _ _ _ _ (HA.out.below B.out) HLL.out.1 (by have := HLL.out; omega) HS.out)
  go_wp2_with fail
  clear hd60 hz h1 h0
  refine HP.out.mono ?_
  rintro e w3 ⟨g, gc, rfl, hr3, b3⟩
  have hr3 := hr3.any
  replace B := Lib.hid (B.out.trans (b3.mono B.out.size))
  clear b3
  have R := Lib.hid hr3
  clear hr3 HP
  have HA3 := Lib.hid (HA.out.below B.out)
  have h4 := rtext_any _ _ g gc _ _ w3 R.out (text_len HS.out (by have := HLL.out; omega))
  go_wp2_with fail
  refine h4.mono ?_
  rintro e w4 ⟨v4, rfl, ho4, b4⟩
  have H4 := Lib.hid ho4.heldInts
  replace B := Lib.hid (B.out.trans (b4.mono B.out.size))
  replace R := Lib.hid (R.out.below b4)
  replace HA3 := Lib.hid (HA3.out.below b4)
  clear b4
  clear ho4 h4
  have h5 := r30text_any _ _ L w4 HA3.out (by have := HLL.out; omega) (by rw [HTI.out]; exact text_len HS.out (by have := HLL.out; omega))
  rw [HTI.out] at h5
  go_wp2_with fail
  refine h5.mono ?_
  rintro e w5 ⟨v5, rfl, ho5, b5⟩
  have H5 := Lib.hid ho5.heldInts
  replace B := Lib.hid (B.out.trans (b5.mono B.out.size))
  replace R := Lib.hid (R.out.below b5)
  replace HA3 := Lib.hid (HA3.out.below b5)
  replace H4 := Lib.hid (H4.out.below b5)
  clear b5
  clear ho5 h5
  have h6 := same_any _ _ _ _ w5 H4.out.ints H5.out.ints H4.out.max
  rw [show sameB (textL L) (textL L) = true from by simp [sameB]] at h6
  go_wp2_with fail
  refine h6.mono ?_
  rintro e w6 ⟨rfl, b6⟩
  replace B := Lib.hid (B.out.trans (b6.mono B.out.size))
  replace R := Lib.hid (R.out.below b6)
  replace HA3 := Lib.hid (HA3.out.below b6)
  clear b6
  clear h6 H4 H5
  have h7 := rplain_any _ _ g gc _ _ w6 R.out (plain_len HS.out (by have := HLL.out; omega))
  go_wp2_with fail
  refine h7.mono ?_
  rintro e w7 ⟨v7, rfl, ho7, b7⟩
  have H7 := Lib.hid ho7.heldInts
  replace B := Lib.hid (B.out.trans (b7.mono B.out.size))
  replace R := Lib.hid (R.out.below b7)
  replace HA3 := Lib.hid (HA3.out.below b7)
  clear b7
  clear ho7 h7
  have h8 := r30plain_any _ _ L w7 HA3.out (by have := HLL.out; omega) (by rw [HIT.out]; exact plain_len HS.out (by have := HLL.out; omega))
  rw [HPI.out] at h8
  go_wp2_with fail
  refine h8.mono ?_
  rintro e w8 ⟨v8, rfl, ho8, b8⟩
  have H8 := Lib.hid ho8.heldInts
  replace B := Lib.hid (B.out.trans (b8.mono B.out.size))
  replace R := Lib.hid (R.out.below b8)
  replace HA3 := Lib.hid (HA3.out.below b8)
  replace H7 := Lib.hid (H7.out.below b8)
  clear b8
  clear ho8 h8
  obtain ⟨P, hP⟩ : ∃ P, P = plainL (L.take (usedTo L L.length)) := ⟨_, rfl⟩
  rw [← hP] at H7 H8
  clear hP
  have h9 := same_any _ _ _ _ w8 H7.out.ints H8.out.ints H7.out.max
  rw [show sameB P P = true from by simp [sameB]] at h9
  go_wp2_with fail
  refine h9.mono ?_
  rintro e w9 ⟨rfl, b9⟩
  replace B := Lib.hid (B.out.trans (b9.mono B.out.size))
  replace R := Lib.hid (R.out.below b9)
  replace HA3 := Lib.hid (HA3.out.below b9)
  clear b9
  clear h9 H7 H8
  have ha := rowused_any _ _ g gc _ _ w9 R.out
  go_wp2_with fail
  refine ha.mono ?_
  rintro e wa ⟨rfl, ba⟩
  replace B := Lib.hid (B.out.trans (ba.mono B.out.size))
  replace HA3 := Lib.hid (HA3.out.below ba)
  clear ba
  clear ha
  have hb := r30used_any _ _ L wa HA3.out
  go_wp2_with fail
  refine hb.mono ?_
  rintro e wb ⟨rfl, bb⟩
  replace B := Lib.hid (B.out.trans (bb.mono B.out.size))
  clear bb
  clear hb
  obtain ⟨U, hU⟩ : ∃ U, U = usedTo L L.length := ⟨_, rfl⟩
  rw [← hU]
  clear hU
  go_wp2
  go_ret
  exact ⟨(ret_eq (by first | rfl | (simp <;> omega))), B.out⟩
set_option maxRecDepth 100000 in
theorem walk {H : Type} {enc : TypeId × Value → H} (W : World) (u : Value) {base : Nat} {d : DataW H} {p : List MemPlace} (hv : Value.okWide Tryd.prog W .any base 22 u) (h : DataW.Trod enc Tryd.prog W 0 (fun _ => true) true 22 u d p) (_ : laidMetH Tryd.prog Rows.rowtextTellsRow.laid W) : Calls Tryd.prog 3 #[u] W (Yes W) := by
  obtain ⟨L, hL, _⟩ := cells_arg hv h
  exact walkH W u L _ hL

theorem door_met (os : Os) : laidMetH Tryd.prog Rows.rowtextTellsRow.laid ((World.doorLaid Tryd.prog 400 os).forCall (fun _ _ => 0) ⟨#[], #[.slice none 0 0], []⟩).memory :=
  laidMetH_of_parts3 (fuel := 8) (laidMet_of_run' 8 (by kernel_rfl) (by kernel_rfl)) (by kernel_rfl) (by kernel_rfl)

set_option maxRecDepth 100000 in
theorem lifted (os : Os) (started : os.Started) (H : Type) (enc : TypeId × Value → H) :
    ReturnsInHanded {} Tryd.checked os 3 .any (fun w args => (Rows.rowtextTellsSpec.pre enc Tryd.prog Tryd.f3 [] false w args ∧ laidMetH Tryd.prog Rows.rowtextTellsRow.laid w) ∧ sizedMet enc Tryd.prog Tryd.f3 (OpenSpec.ofChange Rows.rowtextTellsSpec) false w args)
      (Rows.rowtextTellsSpec.post enc Tryd.prog Tryd.f3 false true false false) := by
  refine law_frame (C := Tryd.checked) (tb := 4) (by kernel_rfl) started (by kernel_rfl) Tryd.func3 (by kernel_rfl) (by kernel_rfl) Tryd.underlying4 rfl
    (by rw [Tryd.params3]; intro t ht; simp at ht; subst ht <;> exact ⟨by kernel_rfl, of_decide_eq_true (by kernel_rfl)⟩)
    (by rw [Tryd.params3]; intro ds hd; match ds, hd with | [_], _ => rfl)
    (ChangeSpec.witness_shaped (enc := enc) (C := Tryd.checked) (os := os) (X := fun w _ => laidMetH Tryd.prog Rows.rowtextTellsRow.laid w) false (World.doorLaid Tryd.prog 400 os) #[.slice none 0 0] 8 rfl (World.shaped_of_RefB (by kernel_rfl) (by kernel_rfl)) (by kernel_rfl) (by kernel_rfl) (by kernel_rfl) (door_met os)) ?_
  intro W base args ds before hval hA hsz hL
  rw [Tryd.params3] at hA hval
  obtain ⟨v0, vs0, d0, ds0, p0, q0, hargs, rfl, rfl, h0, r0⟩ := trodAll_cons hA
  obtain ⟨rfl, rfl, rfl⟩ := trodAll_nil r0
  obtain rfl : args = #[v0] := by cases args; simp_all

  exact walk W v0 (hval 0 22 v0 rfl rfl) h0 hL

theorem said : Rows.RowtextTellsSaid :=
  OpenClaim.holds_of_wide 3 Tryd.f3 rfl rfl rfl rfl rfl rfl rfl ⟨rfl, rfl, rfl, rfl, rfl⟩ rfl rfl rfl rfl rfl (by kernel_rfl) Tryd.func3 (by kernel_rfl)
    (of_decide_eq_true (by kernel_rfl)) (by unfold Func.isWrapper; first | (rw [if_pos (by decide +kernel)]; kernel_rfl) | (rw [if_neg (by decide +kernel)]; exact ⟨rfl, rfl⟩))
    (fun os started H enc _ => lifted os started H enc)

theorem plain (f : FuncId) (fn : Func) (hf : Tryd.pinned.checked.prog.funcNamed "linotype/linotypelaw30.RowtextTells" = some f) (hfn : Tryd.pinned.checked.prog.funcs[f]? = some fn) :
    true = Tryd.pinned.checked.prog.looks [] ∧ ∀ (j : Nat) t, fn.params[j]? = some t → Tryd.pinned.checked.prog.wantsStandIn t = false := by
  obtain rfl : f = 3 := Option.some.inj ((show Tryd.prog.funcNamed "linotype/linotypelaw30.RowtextTells" = some 3 by kernel_rfl).symm.trans hf) |>.symm
  obtain rfl : fn = Tryd.f3 := (Option.some.inj (Tryd.func3.symm.trans hfn)).symm
  refine ⟨by kernel_rfl, fun j t ht => ?_⟩
  rw [Tryd.params3] at ht
  have hm : t ∈ [22] := by simpa using Array.mem_of_getElem? ht
  have hall : ([22].all fun u => !Tryd.prog.wantsStandIn u) = true := by kernel_rfl
  exact (show Tryd.prog.wantsStandIn t = false by simpa using List.all_eq_true.1 hall t hm)

/-- THE CARD. -/
theorem card : Rows.RowtextTellsCardSaid :=
  Claim7.holds_tied_plain_at .later [] _ _ _ _ said (fun _ h => by cases h) (by kernel_rfl) (fun _ h => by cases h) rowtextTells_row_tie rfl ⟨rfl, rfl⟩ (by kernel_rfl) rfl plain (by kernel_rfl)
#print axioms card

end Go.Proofs.YtmclmhdlnlcafaaDoor.lawRowtextTells
