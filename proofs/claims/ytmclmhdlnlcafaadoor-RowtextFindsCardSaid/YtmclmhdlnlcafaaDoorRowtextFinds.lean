/- RowtextFinds (30.2) answers true at every row and every text, and turns nothing. No condition. -/
import Derived.Test.YtmclmhdlnlcafaaDoorTxtN
import Derived.Test.YtmclmhdlnlcafaaDoorCellU
import Derived.Test.YtmclmhdlnlcafaaDoorCellS
import Derived.Test.YtmclmhdlnlcafaaDoorMg1
import Derived.Test.YtmclmhdlnlcafaaDoorCards
import Derived.Test.YtmclmhdlnlcafaaDoorTie
import Derived.ProofKit
namespace Go.Proofs.YtmclmhdlnlcafaaDoor.lawRowtextFinds
open Go.ChangeShapes Go.WideShapes Go.ChangeAt Go.RowKit
set_option maxRecDepth 100000 in
set_option maxHeartbeats 3000000 in
theorem walkH (W : World) (va vb : Value) (L : List Cl) (T : List Int) (Z Y : Zone) (ha : HeldE cellE Z W va L) (hb : HeldE (intE .i32) Y W vb T) : Calls Tryd.prog 4 #[va, vb] W (Yes W) := by
  have hlb := hb.max
  obtain ⟨bo, cb, rfl⟩ := hb.len
  have HT := Lib.hid hb
  clear hb
  have hla := ha.max
  have ha := ha.lower
  obtain ⟨ao, ca, rfl⟩ := ha.len
  have HA := Lib.hid ha
  clear ha
  by_cases h1 : 100 < L.length
  · go_enter Tryd.func4, Tryd.ntmps4
    go_wp2_with fail
    refine (works30_any _).mono ?_
    rintro e w1 ⟨rfl, b1⟩
    go_wp2_with fail
    refine (works30_any _).mono ?_
    rintro e w2 ⟨rfl, b2⟩
    have b2 := b1.trans (b2.mono b1.size)
    go_wp2
    go_ret
    exact ⟨(ret_eq (by first | rfl | (simp <;> omega))), b2⟩
  have hd60 : decide ((100 : Int) < L.length) = false := by simp; omega
  by_cases h0 : L.length = 0
  · have hz : ((L.length : Int) == 0) = true := by rw [beq_iff_eq]; omega
    go_enter Tryd.func4, Tryd.ntmps4
    go_wp2_with fail
    refine (works30_any _).mono ?_
    rintro e w1 ⟨rfl, b1⟩
    go_wp2_with fail
    refine (works30_any _).mono ?_
    rintro e w2 ⟨rfl, b2⟩
    have b2 := b1.trans (b2.mono b1.size)
    go_wp2
    go_ret
    exact ⟨(ret_eq (by first | rfl | (simp <;> omega))), b2⟩
  have hz : ((L.length : Int) == 0) = false := by rw [beq_eq_false_iff_ne]; omega
  by_cases h2 : 100 < T.length
  · go_enter Tryd.func4, Tryd.ntmps4
    go_wp2_with fail
    refine (works30_any _).mono ?_
    rintro e w1 ⟨rfl, b1⟩
    go_wp2_with fail
    refine (works30_any _).mono ?_
    rintro e w2 ⟨rfl, b2⟩
    have b2 := b1.trans (b2.mono b1.size)
    go_wp2
    go_ret
    exact ⟨(ret_eq (by first | rfl | (simp <;> omega))), b2⟩
  have hd61 : decide ((100 : Int) < T.length) = false := by simp; omega
  have HTL := Lib.hid (show T.length ≤ 100 by omega)
  by_cases hs : soundB L = false
  · go_enter Tryd.func4, Tryd.ntmps4
    go_wp2_with fail
    refine (works30_any _).mono ?_
    rintro e w1 ⟨rfl, b1⟩
    have hse := rsound_any _ _ _ _ (HA.out.below b1)
    rw [← sound_iff, hs] at hse
    go_wp2_with fail
    refine hse.mono ?_
    rintro e w2 ⟨rfl, b2⟩
    have b2 := b1.trans (b2.mono b1.size)
    go_wp2_with fail
    refine (works30_any _).mono ?_
    rintro e w3 ⟨rfl, b3⟩
    have b3 := b2.trans (b3.mono b2.size)
    go_wp2
    go_ret
    exact ⟨(ret_eq (by first | rfl | (simp <;> omega))), b3⟩
  have hs : soundB L = true := by simpa using hs
  have HS := Lib.hid hs
  have HLL := Lib.hid (show 0 < L.length ∧ L.length ≤ 100 by omega)
  go_enter Tryd.func4, Tryd.ntmps4
  go_wp2_with fail
  refine (works30_any _).mono ?_
  rintro e w1 ⟨rfl, b1⟩
  have hse := rsound_any _ _ _ _ (HA.out.below b1)
  rw [← sound_iff, hs] at hse
  clear hs
  go_wp2_with fail
  refine hse.mono ?_
  rintro e w2 ⟨rfl, b2⟩
  have B := Lib.hid (b1.trans (b2.mono b1.size))
  clear b1 b2 hse
  have HP := Lib.hid (rof_ok _ _ _ _ (HA.out.below B.out) HLL.out.1 (by have := HLL.out; omega) HS.out)
  go_wp2_with fail
  clear hd60 hd61 hz h1 h0 h2
  refine HP.out.mono ?_
  rintro e w3 ⟨g, gc, rfl, hr3, b3⟩
  have hr3 := hr3.any
  replace B := Lib.hid (B.out.trans (b3.mono B.out.size))
  clear b3
  have R := Lib.hid hr3
  clear hr3 HP
  have HA3 := Lib.hid (HA.out.below B.out)
  have HT3 := Lib.hid (HT.out.below B.out)
  have h4 := rfind_any _ _ _ g gc _ _ _ T w3 R.out HT3.out
  rw [find_law HS.out T] at h4
  go_wp2_with fail
  refine h4.mono ?_
  rintro e w4 ⟨rfl, b4⟩
  replace B := Lib.hid (B.out.trans (b4.mono B.out.size))
  replace HA3 := Lib.hid (HA3.out.below b4)
  replace HT3 := Lib.hid (HT3.out.below b4)
  clear b4
  clear h4
  have h5 := r30find_any _ _ _ _ L T w4 HA3.out HT3.out (by have := HLL.out; omega) (sound_short HS.out) (by have := HTL.out; omega)
  obtain ⟨F, hF⟩ : ∃ F, F = rfindF T (itemsL L) 0 := ⟨_, rfl⟩
  rw [← hF] at h5 ⊢
  clear hF
  go_wp2_with fail
  refine h5.mono ?_
  rintro e w5 ⟨rfl, b5⟩
  replace B := Lib.hid (B.out.trans (b5.mono B.out.size))
  replace HT3 := Lib.hid (HT3.out.below b5)
  clear b5
  clear h5
  have h6 := rtfind_nil _ _ T w5 HT3.out
  have hff : (F == F) = true := by simp
  go_wp2_with fail
  refine h6.mono ?_
  rintro e w6 ⟨rfl, b6⟩
  replace B := Lib.hid (B.out.trans (b6.mono B.out.size))
  clear b6
  clear h6
  go_wp2
  go_ret
  exact ⟨(ret_eq (by first | rfl | (simp <;> omega))), B.out⟩
set_option maxRecDepth 100000 in
theorem walk {H : Type} {enc : TypeId × Value → H} (W : World) (u : Value) {base : Nat} {d : DataW H} {p : List MemPlace} (hv : Value.okWide Tryd.prog W .any base 22 u) (h : DataW.Trod enc Tryd.prog W 0 (fun _ => true) true 22 u d p) (u' : Value) {base' : Nat} {d' : DataW H} {p' : List MemPlace} (hv' : Value.okWide Tryd.prog W .any base' 31 u') (h' : DataW.Trod enc Tryd.prog W 0 (fun _ => true) true 31 u' d' p') (_ : laidMetH Tryd.prog Rows.rowtextFindsRow.laid W) : Calls Tryd.prog 4 #[u, u'] W (Yes W) := by
  obtain ⟨L, hL, _⟩ := cells_arg hv h
  obtain ⟨T, hT, _⟩ := opens_arg Tryd.underlying31 (by kernel_rfl) (by decide) (opens_int Tryd.underlying21 (by kernel_rfl)) hv' h'
  exact walkH W u u' L T _ _ hL hT

theorem door_met (os : Os) : laidMetH Tryd.prog Rows.rowtextFindsRow.laid ((World.doorLaid Tryd.prog 400 os).forCall (fun _ _ => 0) ⟨#[], #[.slice none 0 0, .slice none 0 0], []⟩).memory :=
  laidMetH_of_parts3 (fuel := 8) (laidMet_of_run' 8 (by kernel_rfl) (by kernel_rfl)) (by kernel_rfl) (by kernel_rfl)

set_option maxRecDepth 100000 in
theorem lifted (os : Os) (started : os.Started) (H : Type) (enc : TypeId × Value → H) :
    ReturnsInHanded {} Tryd.checked os 4 .any (fun w args => (Rows.rowtextFindsSpec.pre enc Tryd.prog Tryd.f4 [] false w args ∧ laidMetH Tryd.prog Rows.rowtextFindsRow.laid w) ∧ sizedMet enc Tryd.prog Tryd.f4 (OpenSpec.ofChange Rows.rowtextFindsSpec) false w args)
      (Rows.rowtextFindsSpec.post enc Tryd.prog Tryd.f4 false true false false) := by
  refine law_frame (C := Tryd.checked) (tb := 4) (by kernel_rfl) started (by kernel_rfl) Tryd.func4 (by kernel_rfl) (by kernel_rfl) Tryd.underlying4 rfl
    (by rw [Tryd.params4]; intro t ht; simp at ht; rcases ht with rfl | rfl <;> exact ⟨by kernel_rfl, of_decide_eq_true (by kernel_rfl)⟩)
    (by rw [Tryd.params4]; intro ds hd; match ds, hd with | [_, _], _ => rfl)
    (ChangeSpec.witness_shaped (enc := enc) (C := Tryd.checked) (os := os) (X := fun w _ => laidMetH Tryd.prog Rows.rowtextFindsRow.laid w) false (World.doorLaid Tryd.prog 400 os) #[.slice none 0 0, .slice none 0 0] 8 rfl (World.shaped_of_RefB (by kernel_rfl) (by kernel_rfl)) (by kernel_rfl) (by kernel_rfl) (by kernel_rfl) (door_met os)) ?_
  intro W base args ds before hval hA hsz hL
  rw [Tryd.params4] at hA hval
  obtain ⟨v0, vs0, d0, ds0, p0, q0, hargs, rfl, rfl, h0, r0⟩ := trodAll_cons hA
  obtain ⟨v1, vs1, d1, ds1, p1, q1, rfl, rfl, rfl, h1, r1⟩ := trodAll_cons r0
  obtain ⟨rfl, rfl, rfl⟩ := trodAll_nil r1
  obtain rfl : args = #[v0, v1] := by cases args; simp_all

  exact walk W v0 (hval 0 22 v0 rfl rfl) h0 v1 (hval 1 31 v1 rfl rfl) h1 hL

theorem said : Rows.RowtextFindsSaid :=
  OpenClaim.holds_of_wide 4 Tryd.f4 rfl rfl rfl rfl rfl rfl rfl ⟨rfl, rfl, rfl, rfl, rfl⟩ rfl rfl rfl rfl rfl (by kernel_rfl) Tryd.func4 (by kernel_rfl)
    (of_decide_eq_true (by kernel_rfl)) (by unfold Func.isWrapper; first | (rw [if_pos (by decide +kernel)]; kernel_rfl) | (rw [if_neg (by decide +kernel)]; exact ⟨rfl, rfl⟩))
    (fun os started H enc _ => lifted os started H enc)

theorem plain (f : FuncId) (fn : Func) (hf : Tryd.pinned.checked.prog.funcNamed "linotype/linotypelaw30.RowtextFinds" = some f) (hfn : Tryd.pinned.checked.prog.funcs[f]? = some fn) :
    true = Tryd.pinned.checked.prog.looks [] ∧ ∀ (j : Nat) t, fn.params[j]? = some t → Tryd.pinned.checked.prog.wantsStandIn t = false := by
  obtain rfl : f = 4 := Option.some.inj ((show Tryd.prog.funcNamed "linotype/linotypelaw30.RowtextFinds" = some 4 by kernel_rfl).symm.trans hf) |>.symm
  obtain rfl : fn = Tryd.f4 := (Option.some.inj (Tryd.func4.symm.trans hfn)).symm
  refine ⟨by kernel_rfl, fun j t ht => ?_⟩
  rw [Tryd.params4] at ht
  have hm : t ∈ [22, 31] := by simpa using Array.mem_of_getElem? ht
  have hall : ([22, 31].all fun u => !Tryd.prog.wantsStandIn u) = true := by kernel_rfl
  exact (show Tryd.prog.wantsStandIn t = false by simpa using List.all_eq_true.1 hall t hm)

/-- THE CARD. -/
theorem card : Rows.RowtextFindsCardSaid :=
  Claim7.holds_tied_plain_at .later [] _ _ _ _ said (fun _ h => by cases h) (by kernel_rfl) (fun _ h => by cases h) rowtextFinds_row_tie rfl ⟨rfl, rfl⟩ (by kernel_rfl) rfl plain (by kernel_rfl)
#print axioms card

end Go.Proofs.YtmclmhdlnlcafaaDoor.lawRowtextFinds
