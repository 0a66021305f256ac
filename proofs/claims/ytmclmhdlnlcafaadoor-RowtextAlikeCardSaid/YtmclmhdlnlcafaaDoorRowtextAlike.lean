/- RowtextAlike (30.3) answers true at every row, and turns nothing. No condition. -/
import Derived.Test.YtmclmhdlnlcafaaDoorTxtN
import Derived.Test.YtmclmhdlnlcafaaDoorCellU
import Derived.Test.YtmclmhdlnlcafaaDoorCellS
import Derived.Test.YtmclmhdlnlcafaaDoorMg1
import Derived.Test.YtmclmhdlnlcafaaDoorCards
import Derived.Test.YtmclmhdlnlcafaaDoorTie
import Derived.ProofKit
namespace Go.Proofs.YtmclmhdlnlcafaaDoor.lawRowtextAlike
open Go.ChangeShapes Go.WideShapes Go.ChangeAt Go.RowKit
set_option maxRecDepth 100000 in
set_option maxHeartbeats 3000000 in
theorem walkH (W : World) (va : Value) (L : List Cl) (Z : Zone) (ha : HeldE cellE Z W va L) : Calls Tryd.prog 5 #[va] W (Yes W) := by
  have hla := ha.max
  have ha := ha.lower
  obtain ⟨ao, ca, rfl⟩ := ha.len
  have HA := Lib.hid ha
  clear ha
  by_cases h1 : 200 < L.length
  · go_enter Tryd.func5, Tryd.ntmps5
    go_wp2_with fail
    refine (works30_any _).mono ?_
    rintro e w1 ⟨rfl, b1⟩
    go_wp2_with fail
    refine (works30_any _).mono ?_
    rintro e w2 ⟨rfl, b2⟩
    have b2 := b1.trans (b2.mono b1.size)
    go_wp2
    go_ret
    exact ⟨(ret_eq (by first | rfl | (simp <;> omega))), b2⟩
  have hd60 : decide ((200 : Int) < L.length) = false := by simp; omega
  by_cases h0 : L.length = 0
  · have hz : ((L.length : Int) == 0) = true := by rw [beq_iff_eq]; omega
    go_enter Tryd.func5, Tryd.ntmps5
    go_wp2_with fail
    refine (works30_any _).mono ?_
    rintro e w1 ⟨rfl, b1⟩
    go_wp2_with fail
    refine (works30_any _).mono ?_
    rintro e w2 ⟨rfl, b2⟩
    have b2 := b1.trans (b2.mono b1.size)
    go_wp2
    go_ret
    exact ⟨(ret_eq (by first | rfl | (simp <;> omega))), b2⟩
  have hz : ((L.length : Int) == 0) = false := by rw [beq_eq_false_iff_ne]; omega
  by_cases hs : soundB L = false
  · go_enter Tryd.func5, Tryd.ntmps5
    go_wp2_with fail
    refine (works30_any _).mono ?_
    rintro e w1 ⟨rfl, b1⟩
    have hse := rsound_any _ _ _ _ (HA.out.below b1)
    rw [← sound_iff, hs] at hse
    go_wp2_with fail
    refine hse.mono ?_
    rintro e w2 ⟨rfl, b2⟩
    have b2 := b1.trans (b2.mono b1.size)
    go_wp2_with fail
    refine (works30_any _).mono ?_
    rintro e w3 ⟨rfl, b3⟩
    have b3 := b2.trans (b3.mono b2.size)
    go_wp2
    go_ret
    exact ⟨(ret_eq (by first | rfl | (simp <;> omega))), b3⟩
  have hs : soundB L = true := by simpa using hs
  have HS := Lib.hid hs
  have HLL := Lib.hid (show 0 < L.length ∧ L.length ≤ 200 by omega)
  go_enter Tryd.func5, Tryd.ntmps5
  go_wp2_with fail
  refine (works30_any _).mono ?_
  rintro e w1 ⟨rfl, b1⟩
  have hse := rsound_any _ _ _ _ (HA.out.below b1)
  rw [← sound_iff, hs] at hse
  clear hs
  go_wp2_with fail
  refine hse.mono ?_
  rintro e w2 ⟨rfl, b2⟩
  have B := Lib.hid (b1.trans (b2.mono b1.size))
  clear b1 b2 hse
  have HA2 := Lib.hid (HA.out.below B.out).lower
  obtain ⟨_, _, hc⟩ := cells_at HA2.out
  have HC := Lib.hid hc
  obtain ⟨U, hU⟩ : ∃ U, U = usedTo L L.length := ⟨_, rfl⟩
  have hul : U ≤ L.length := by rw [hU]; exact usedTo_le _ _
  have HUE := Lib.hid hU
  clear hd60 hz h1 h0 hc hU
  go_wp2
  go_loopw [3] (fun i wr => ∃ k : Nat, k ≤ U ∧ i = .int .i64 k ∧ Go.RowKit.Hid (∀ j, j < k → (L.getD j zc).1 ≠ 0) ∧ Below w2.heap.size w2 wr) (fun i _ => U - (intOf i).toNat)
  case atStart => exact ⟨0, Nat.zero_le _, rfl, Lib.hid (fun j hj => absurd hj (Nat.not_lt_zero _)), Below.refl _ _⟩
  case round =>
    obtain ⟨k, hk, rfl, HK, hbw⟩ := hrel
    have HBW := Lib.hid hbw
    clear hbw
    have hq := r30used_any _ _ L wr (HA2.out.below HBW.out)
    rw [← HUE.out] at hq
    go_wp2_with fail
    refine hq.mono ?_
    rintro e w3 ⟨rfl, b3⟩
    replace HBW := Lib.hid (HBW.out.trans (b3.mono HBW.out.size))
    clear b3
    clear hq
    by_cases hlt : k < U
    · obtain ⟨b, off, tv, rfl, hb, _, c0, c1, hh⟩ := HC.out k (by omega)
      have c0 := (HBW.out.cell (p := ⟨b, off + k * 2, none⟩) hb).trans c0
      obtain ⟨K, hK⟩ : ∃ K, K = (L.getD k zc).1 := ⟨_, rfl⟩
      rw [← hK] at c0
      have HKE := Lib.hid hK
      clear hK hh c1 hb
      by_cases h0 : K = 0
      · have hk0 : (K == 0) = true := by rw [beq_iff_eq]; exact h0
        clear h0 HKE
        have HF := Lib.hid (B.out.trans (HBW.out.mono B.out.size))
        go_wp2
        go_ret
        exact ⟨(ret_eq (by first | rfl | (simp <;> omega))), HF.out⟩
      · have hk0 : (K == 0) = false := by rw [beq_eq_false_iff_ne]; exact h0
        have HKN := Lib.hid (show ∀ j, j < k + 1 → (L.getD j zc).1 ≠ 0 from fun j hj => by
          by_cases e : j = k
          · subst e; rw [← HKE.out]; exact h0
          · exact HK.out j (by omega))
        clear h0 HKE
        go_wp2
        go_roundw
        case rel => exact ⟨k + 1, by omega, by go_num, HKN, HBW.out⟩
        case measure => simp [intOf] <;> omega
    · obtain rfl : k = U := by omega
      have HTA := Lib.hid (texts_alike HS.out (by rw [← HUE.out]; exact HK.out))
      rw [← HUE.out] at HTA
      replace B := Lib.hid (B.out.trans (HBW.out.mono B.out.size))
      have HP := Lib.hid (rof_ok _ _ _ _ (HA.out.below B.out) HLL.out.1 (by have := HLL.out; omega) HS.out)
      go_wp2_with fail
      refine HP.out.mono ?_
      rintro e w4 ⟨g, gc, rfl, hr4, b4⟩
      have R := Lib.hid hr4.any
      replace B := Lib.hid (B.out.trans (b4.mono B.out.size))
      clear b4
      clear hr4 HP
      have h5 := rtext_any _ _ g gc _ _ w4 R.out (text_len HS.out (by have := HLL.out; omega))
      go_wp2_with fail
      refine h5.mono ?_
      rintro e w5 ⟨v5, rfl, ho5, b5⟩
      have H5 := Lib.hid ho5.heldInts
      replace B := Lib.hid (B.out.trans (b5.mono B.out.size))
      replace R := Lib.hid (R.out.below b5)
      clear b5
      clear ho5 h5
      have h6 := rplain_any _ _ g gc _ _ w5 R.out (plain_len HS.out (by have := HLL.out; omega))
      rw [← HUE.out, HTA.out] at h6
      go_wp2_with fail
      refine h6.mono ?_
      rintro e w6 ⟨v6, rfl, ho6, b6⟩
      have H6 := Lib.hid ho6.heldInts
      replace B := Lib.hid (B.out.trans (b6.mono B.out.size))
      replace H5 := Lib.hid (H5.out.below b6)
      clear b6
      clear ho6 h6
      have h7 := same_any _ _ _ _ w6 H5.out.ints H6.out.ints H5.out.max
      rw [show sameB (textL L) (textL L) = true from by simp [sameB]] at h7
      go_wp2_with fail
      refine h7.mono ?_
      rintro e w7 ⟨rfl, b7⟩
      replace B := Lib.hid (B.out.trans (b7.mono B.out.size))
      clear b7
      clear h7
      go_wp2
      go_ret
      exact ⟨(ret_eq (by first | rfl | (simp <;> omega))), B.out⟩
set_option maxRecDepth 100000 in
theorem walk {H : Type} {enc : TypeId × Value → H} (W : World) (u : Value) {base : Nat} {d : DataW H} {p : List MemPlace} (hv : Value.okWide Tryd.prog W .any base 22 u) (h : DataW.Trod enc Tryd.prog W 0 (fun _ => true) true 22 u d p) (_ : laidMetH Tryd.prog Rows.rowtextAlikeRow.laid W) : Calls Tryd.prog 5 #[u] W (Yes W) := by
  obtain ⟨L, hL, _⟩ := cells_arg hv h
  exact walkH W u L _ hL

theorem door_met (os : Os) : laidMetH Tryd.prog Rows.rowtextAlikeRow.laid ((World.doorLaid Tryd.prog 400 os).forCall (fun _ _ => 0) ⟨#[], #[.slice none 0 0], []⟩).memory :=
  laidMetH_of_parts3 (fuel := 8) (laidMet_of_run' 8 (by kernel_rfl) (by kernel_rfl)) (by kernel_rfl) (by kernel_rfl)

set_option maxRecDepth 100000 in
theorem lifted (os : Os) (started : os.Started) (H : Type) (enc : TypeId × Value → H) :
    ReturnsInHanded {} Tryd.checked os 5 .any (fun w args => (Rows.rowtextAlikeSpec.pre enc Tryd.prog Tryd.f5 [] false w args ∧ laidMetH Tryd.prog Rows.rowtextAlikeRow.laid w) ∧ sizedMet enc Tryd.prog Tryd.f5 (OpenSpec.ofChange Rows.rowtextAlikeSpec) false w args)
      (Rows.rowtextAlikeSpec.post enc Tryd.prog Tryd.f5 false true false false) := by
  refine law_frame (C := Tryd.checked) (tb := 4) (by kernel_rfl) started (by kernel_rfl) Tryd.func5 (by kernel_rfl) (by kernel_rfl) Tryd.underlying4 rfl
    (by rw [Tryd.params5]; intro t ht; simp at ht; subst ht <;> exact ⟨by kernel_rfl, of_decide_eq_true (by kernel_rfl)⟩)
    (by rw [Tryd.params5]; intro ds hd; match ds, hd with | [_], _ => rfl)
    (ChangeSpec.witness_shaped (enc := enc) (C := Tryd.checked) (os := os) (X := fun w _ => laidMetH Tryd.prog Rows.rowtextAlikeRow.laid w) false (World.doorLaid Tryd.prog 400 os) #[.slice none 0 0] 8 rfl (World.shaped_of_RefB (by kernel_rfl) (by kernel_rfl)) (by kernel_rfl) (by kernel_rfl) (by kernel_rfl) (door_met os)) ?_
  intro W base args ds before hval hA hsz hL
  rw [Tryd.params5] at hA hval
  obtain ⟨v0, vs0, d0, ds0, p0, q0, hargs, rfl, rfl, h0, r0⟩ := trodAll_cons hA
  obtain ⟨rfl, rfl, rfl⟩ := trodAll_nil r0
  obtain rfl : args = #[v0] := by cases args; simp_all

  exact walk W v0 (hval 0 22 v0 rfl rfl) h0 hL

theorem said : Rows.RowtextAlikeSaid :=
  OpenClaim.holds_of_wide 5 Tryd.f5 rfl rfl rfl rfl rfl rfl rfl ⟨rfl, rfl, rfl, rfl, rfl⟩ rfl rfl rfl rfl rfl (by kernel_rfl) Tryd.func5 (by kernel_rfl)
    (of_decide_eq_true (by kernel_rfl)) (by unfold Func.isWrapper; first | (rw [if_pos (by decide +kernel)]; kernel_rfl) | (rw [if_neg (by decide +kernel)]; exact ⟨rfl, rfl⟩))
    (fun os started H enc _ => lifted os started H enc)

theorem plain (f : FuncId) (fn : Func) (hf : Tryd.pinned.checked.prog.funcNamed "linotype/linotypelaw30.RowtextAlike" = some f) (hfn : Tryd.pinned.checked.prog.funcs[f]? = some fn) :
    true = Tryd.pinned.checked.prog.looks [] ∧ ∀ (j : Nat) t, fn.params[j]? = some t → Tryd.pinned.checked.prog.wantsStandIn t = false := by
  obtain rfl : f = 5 := Option.some.inj ((show Tryd.prog.funcNamed "linotype/linotypelaw30.RowtextAlike" = some 5 by kernel_rfl).symm.trans hf) |>.symm
  obtain rfl : fn = Tryd.f5 := (Option.some.inj (Tryd.func5.symm.trans hfn)).symm
  refine ⟨by kernel_rfl, fun j t ht => ?_⟩
  rw [Tryd.params5] at ht
  have hm : t ∈ [22] := by simpa using Array.mem_of_getElem? ht
  have hall : ([22].all fun u => !Tryd.prog.wantsStandIn u) = true := by kernel_rfl
  exact (show Tryd.prog.wantsStandIn t = false by simpa using List.all_eq_true.1 hall t hm)

/-- THE CARD. -/
theorem card : Rows.RowtextAlikeCardSaid :=
  Claim7.holds_tied_plain_at .later [] _ _ _ _ said (fun _ h => by cases h) (by kernel_rfl) (fun _ h => by cases h) rowtextAlike_row_tie rfl ⟨rfl, rfl⟩ (by kernel_rfl) rfl plain (by kernel_rfl)
#print axioms card

end Go.Proofs.YtmclmhdlnlcafaaDoor.lawRowtextAlike
