/- MarkWidens (25.3) answers true at every sound row, column and text, and turns nothing. -/
import Derived.Test.YtomfclkldmmmgaaDoorMarkW
import Derived.Test.YtomfclkldmmmgaaDoorSndM
import Derived.Test.YtomfclkldmmmgaaDoorCellU
import Derived.Test.YtomfclkldmmmgaaDoorCellS
import Derived.Test.YtomfclkldmmmgaaDoorErrS
import Derived.Test.YtomfclkldmmmgaaDoorCards
import Derived.Test.YtomfclkldmmmgaaDoorTie
import Derived.ProofKit
import Derived.Lib.MinMax
namespace Go.Proofs.YtomfclkldmmmgaaDoor.lawMarkWidens
open Go.ChangeShapes Go.WideShapes Go.ChangeAt Go.RowKit
theorem wide_same (L : List Cl) (text : List Int) (c : Nat) (hc : c + 1 < L.length) (h0 : 0 < text.length) :
    ∃ L1, paintL L (ofC 1 text) c = L1 ∧ widL L1 false (c : Int) = (paintL L (ofC 2 text) c, false, true) := by
  refine ⟨_, rfl, ?_⟩
  obtain ⟨t, ht⟩ : ∃ t, t = (text.take 16).map repl := ⟨_, rfl⟩
  have hne : t.length ≠ 0 := by rw [ht, List.length_map, List.length_take]; omega
  have hl16 : t.length ≤ 16 := by rw [ht, List.length_map, List.length_take]; omega
  have e1 : ofC 1 text = [(1, t)] := by
    unfold ofC
    rw [← ht]
    simp only
    rw [if_neg hne]
    rfl
  have e2 : ofC 2 text = [(2, t), (3, [])] := by
    unfold ofC
    rw [← ht]
    simp only
    rw [if_neg hne]
    rfl
  have e3 : ofC 2 t = [(2, t), (3, [])] := by
    rw [ofC_text (by omega) hl16, if_pos (by decide), map_valid (by rw [ht]; exact all_repl _)]
  have hk := paint_one_at L (1, t) c (by omega)
  rw [e1, e2]
  unfold widL
  rw [kind_nat, hk, paint_len, if_neg (by rintro (h | h | h); omega; omega; exact h rfl), Int.toNat_natCast, hk, e3, paint_over, Bool.false_and]
set_option maxRecDepth 100000 in
set_option maxHeartbeats 2500000 in
theorem walkH (W : World) (va : Value) (L : List Cl) (Z : Zone) (ha : HeldE cellE Z W va L) (cw : Int) (vb : Value) (xs : List Int) (Y : Zone) (hb : HeldE (intE .i32) Y W vb xs) : Calls Tryd.prog 5 #[va, .int .i64 cw, vb] W (Yes W) := by
  have hla := ha.max
  have hlb := hb.max
  have ha := ha.lower
  obtain ⟨ao, ca, rfl⟩ := ha.len
  obtain ⟨bo, cb, rfl⟩ := hb.len
  have HA := Lib.hid ha
  have HB := Lib.hid hb
  clear ha hb
  by_cases h1 : 60 < L.length
  · go_enter Tryd.func5, Tryd.ntmps5
    go_wp2_with fail
    refine (works25_any _).mono ?_
    rintro e w1 ⟨rfl, b1⟩
    go_wp2_with fail
    refine (works25_any _).mono ?_
    rintro e w2 ⟨rfl, b2⟩
    have b2 := b1.trans (b2.mono b1.size)
    go_wp2
    go_ret
    exact ⟨(ret_eq (by first | rfl | (simp <;> omega))), b2⟩
  have hd60 : decide ((60 : Int) < L.length) = false := by simp; omega
  by_cases h2 : L.length < 2
  · have hd2 : decide ((L.length : Int) < 2) = true := by simp; omega
    go_enter Tryd.func5, Tryd.ntmps5
    go_wp2_with fail
    refine (works25_any _).mono ?_
    rintro e w1 ⟨rfl, b1⟩
    go_wp2_with fail
    refine (works25_any _).mono ?_
    rintro e w2 ⟨rfl, b2⟩
    have b2 := b1.trans (b2.mono b1.size)
    go_wp2
    go_ret
    exact ⟨(ret_eq (by first | rfl | (simp <;> omega))), b2⟩
  have hd2 : decide ((L.length : Int) < 2) = false := by simp; omega
  by_cases hs : soundB L = false
  · go_enter Tryd.func5, Tryd.ntmps5
    go_wp2_with fail
    refine (works25_any _).mono ?_
    rintro e w1 ⟨rfl, b1⟩
    have hse := rsound_any _ _ _ _ (HA.out.below b1)
    rw [← sound_iff, hs] at hse
    go_wp2_with fail
    refine hse.mono ?_
    rintro e w2 ⟨rfl, b2⟩
    have b2 := b1.trans (b2.mono b1.size)
    go_wp2_with fail
    refine (works25_any _).mono ?_
    rintro e w3 ⟨rfl, b3⟩
    have b3 := b2.trans (b3.mono b2.size)
    go_wp2
    go_ret
    exact ⟨(ret_eq (by first | rfl | (simp <;> omega))), b3⟩
  have hs : soundB L = true := by simpa using hs
  by_cases h3 : xs.length = 0 ∨ 40 < xs.length
  · have hq : ∃ q0 q1, ((xs.length : Int) == 0) = q0 ∧ decide ((40 : Int) < xs.length) = q1 ∧ (q0 = true ∨ q0 = false ∧ q1 = true) := by
      refine ⟨_, _, rfl, rfl, ?_⟩
      rcases h3 with h | h
      · left; rw [beq_iff_eq]; omega
      · right
        exact ⟨by rw [beq_eq_false_iff_ne]; omega, by simp; omega⟩
    obtain ⟨q0, q1, hq0, hq1, hq⟩ := hq
    clear h3
    rcases hq with rfl | ⟨rfl, rfl⟩
    all_goals
      go_enter Tryd.func5, Tryd.ntmps5
      go_wp2_with fail
      refine (works25_any _).mono ?_
      rintro e w1 ⟨rfl, b1⟩
      have hse := rsound_any _ _ _ _ (HA.out.below b1)
      rw [← sound_iff, hs] at hse
      go_wp2_with fail
      refine hse.mono ?_
      rintro e w2 ⟨rfl, b2⟩
      have b2 := b1.trans (b2.mono b1.size)
      go_wp2_with fail
      refine (works25_any _).mono ?_
      rintro e w3 ⟨rfl, b3⟩
      have b3 := b2.trans (b3.mono b2.size)
      go_wp2
      go_ret
      exact ⟨(ret_eq (by first | rfl | (simp <;> omega))), b3⟩
  have hd3 : ((xs.length : Int) == 0) = false := by rw [beq_eq_false_iff_ne]; omega
  have hd4 : decide ((40 : Int) < xs.length) = false := by simp; omega
  obtain ⟨y, hy⟩ : ∃ y, y = IntKind.u64.wrap cw := ⟨_, rfl⟩
  have hy0 : 0 ≤ y ∧ y ≤ 18446744073709551615 := by rw [hy, IntKind.wrap_u64]; omega
  obtain ⟨m, hm⟩ : ∃ m : Nat, (L.length : Int) - 1 = m := ⟨L.length - 1, by omega⟩
  have hm0 : 0 < m := by omega
  obtain ⟨c, hc⟩ : ∃ c : Nat, y % (m : Int) = c := ⟨(y % (m : Int)).toNat, by have := Int.emod_nonneg y (show (m : Int) ≠ 0 by omega); omega⟩
  have hcm : c < m := by have := Int.emod_lt_of_pos y (show 0 < (m : Int) by omega); omega
  have hc60 : c < 60 := by omega
  have hy' : IntKind.u64.wrap cw = y := hy.symm
  have hct : y.tmod (m : Int) = (c : Int) := by rw [Int.tmod_eq_emod_of_nonneg hy0.1]; exact hc
  have hwc : IntKind.i64.wrap (c : Int) = (c : Int) := by rw [IntKind.wrap_i64]; omega
  clear hy hy0 hc
  have hcl : c + 1 < L.length := by omega
  obtain ⟨L1, hL1, hW1⟩ := wide_same L xs c hcl (by omega)
  have HW1 := Lib.hid hW1
  have HL1 := Lib.hid hL1
  have HLN := Lib.hid (show L1.length = L.length by rw [← hL1]; exact paint_len _ _ _)
  have HG1 := Lib.hid (show wrongI L.length (c : Int) (ofC 1 xs) = 0 from wrong_none (by rw [ofC_len, if_neg (by decide)]; omega) (ofC_sound _ _))
  have HG2 := Lib.hid (show wrongI L.length (c : Int) (ofC 2 xs) = 0 from wrong_none (by rw [ofC_len, if_pos (by decide)]; omega) (ofC_sound _ _))
  clear hW1 hL1
  go_enter Tryd.func5, Tryd.ntmps5
  go_wp2_with fail
  refine (works25_any _).mono ?_
  rintro e w1 ⟨rfl, b1⟩
  have hse := rsound_any _ _ _ _ (HA.out.below b1)
  rw [← sound_iff, hs] at hse
  have HS := Lib.hid hs
  clear hs
  go_wp2_with fail
  refine hse.mono ?_
  rintro e w2 ⟨rfl, b2⟩
  have B := Lib.hid (b1.trans (b2.mono b1.size))
  clear b1 b2 hse
  have HP := Lib.hid (rof_ok _ _ _ _ (HA.out.below B.out) (by omega) (by omega) HS.out)
  have HLL := Lib.hid (And.intro h1 h2)
  go_wp2_with fail
  clear hm hct hwc hy' hd60 hd2 hd3 hd4 h3 hm0 hcm h1 h2
  refine HP.out.mono ?_
  rintro e w3 ⟨g, gc, rfl, hr3, b3⟩
  have hlt := hr3.lt
  have HLT := Lib.hid (show W.heap.size ≤ g ∧ W.heap.size ≤ gc ∧ g < w3.heap.size ∧ gc < w3.heap.size from by have := B.out.size; omega)
  have R := Lib.hid (hr3.keep (.refl _ _) (Y := fun b => b < w3.heap.size) (fun b hb _ => hb))
  replace B := Lib.hid (B.out.trans (b3.mono B.out.size))
  clear hr3 b3 hlt HP
  have HP := Lib.hid (rof_ok _ _ _ _ (HA.out.below B.out) (by have := HLL.out; omega) (by have := HLL.out; omega) HS.out)
  go_wp2_with fail
  refine HP.out.mono ?_
  rintro e w4 ⟨g2, gc2, rfl, hr4, b4⟩
  have hlt := hr4.lt
  have HLT4 := Lib.hid (show w3.heap.size ≤ g2 ∧ w3.heap.size ≤ gc2 ∧ g2 < w4.heap.size ∧ gc2 < w4.heap.size from by omega)
  have R4 := Lib.hid hr4
  have HS4 := Lib.hid hlt
  replace B := Lib.hid (B.out.trans (b4.mono B.out.size))
  replace R := Lib.hid (R.out.below b4)
  clear b4
  replace R := Lib.hid (R.out.keep (.refl _ _) (Y := fun b => b ≠ g2 ∧ b ≠ gc2) (fun b _ hb => by have := HLT4.out; omega))
  clear hr4 hlt HP
  have HQ := Lib.hid (mput_z (fun b => b ≠ g2 ∧ b ≠ gc2) _ _ g gc L false (c : Int) 1 _ xs w4 (fun b hb => by have := HLT4.out; omega) R.out (HB.out.below B.out) HG1.out)
  rw [Int.toNat_natCast, HL1.out, Bool.false_and] at HQ
  go_wp2_with fail
  refine HQ.out.mono ?_
  rintro e w5 ⟨rfl, hr5, u5⟩
  replace R := Lib.hid hr5
  have HS5 := Lib.hid u5.size
  replace R4 := Lib.hid (R4.out.upd u5 (fun b hb e => by have := HLT.out; rcases e with e | e <;> omega) (fun e => by have := HLT.out; have := HLT4.out; rcases e with e | e <;> omega) (fun e => by have := HLT.out; have := HLT4.out; rcases e with e | e <;> omega))
  replace B := Lib.hid (B.out.upd u5 B.out.size (fun x e => by have := HLT.out; rcases e with e | e <;> omega))
  clear hr5 u5 HQ
  have HQ := Lib.hid (mwid_z (fun b => b ≠ g2 ∧ b ≠ gc2) _ g gc L1 false (c : Int) w5 (fun b hb => by have := HLT4.out; have := HS5.out; omega) R.out)
  rw [HW1.out] at HQ
  go_wp2_with fail
  refine HQ.out.mono ?_
  rintro e w6 ⟨rfl, hr6, u6⟩
  replace R := Lib.hid hr6
  replace R4 := Lib.hid (R4.out.upd u6 (fun b hb e => by have := HLT.out; rcases e with e | e <;> omega) (fun e => by have := HLT.out; have := HLT4.out; rcases e with e | e <;> omega) (fun e => by have := HLT.out; have := HLT4.out; rcases e with e | e <;> omega))
  replace B := Lib.hid (B.out.upd u6 B.out.size (fun x e => by have := HLT.out; rcases e with e | e <;> omega))
  clear hr6 u6 HQ
  have HQ := Lib.hid (mput_good _ _ g2 gc2 L false (c : Int) 2 _ xs w6 R4.out.any (HB.out.below B.out) HG2.out)
  rw [Int.toNat_natCast, Bool.false_and] at HQ
  go_wp2_with fail
  refine HQ.out.mono ?_
  rintro e w7 ⟨rfl, hr7, u7⟩
  have hd7 : ∀ x, (x = g2 ∨ x = gc2) → w3.heap.size ≤ x := fun x e => by have := HLT4.out; rcases e with e | e <;> omega
  replace R := Lib.hid (R.out.upd u7 (fun b hb e => by rcases e with e | e; exact hb.1 e; exact hb.2 e) (fun e => by have := hd7 _ e; have := HLT.out; omega) (fun e => by have := hd7 _ e; have := HLT.out; omega))
  replace R4 := Lib.hid hr7
  replace B := Lib.hid (B.out.upd u7 B.out.size (fun x e => by have := hd7 _ e; have := HLT.out; omega))
  clear hr7 u7 hd7 HQ
  go_wp2_with fail
  refine (rcells_any _ _ g gc _ _ _ R.out).mono ?_
  rintro e w8 ⟨v8, rfl, ho8, b8⟩
  have H8 := Lib.hid (ho8.held (fun b hb _ => hb))
  replace B := Lib.hid (B.out.trans (b8.mono B.out.size))
  replace R4 := Lib.hid (R4.out.below b8)
  clear b8
  clear ho8
  go_wp2_with fail
  refine (rcells_any _ _ g2 gc2 _ _ _ R4.out).mono ?_
  rintro e w9 ⟨v9, rfl, ho9, b9⟩
  have H9 := Lib.hid (ho9.held (fun b hb _ => hb))
  replace B := Lib.hid (B.out.trans (b9.mono B.out.size))
  replace H8 := Lib.hid (H8.out.below b9)
  clear b9
  clear ho9
  go_wp2_with fail
  refine (rcsame_any _ _ _ _ _ _ _ H8.out H9.out).mono ?_
  rintro e wa ⟨rfl, ba⟩
  rw [sameC_self]
  replace B := Lib.hid (B.out.trans (ba.mono B.out.size))
  clear ba
  go_wp2
  go_ret
  exact ⟨(ret_eq (by first | rfl | (simp <;> omega))), B.out⟩
set_option maxRecDepth 100000 in
theorem walk {H : Type} {enc : TypeId × Value → H} (W : World) (u : Value) {base : Nat} {d : DataW H} {p : List MemPlace} (hv : Value.okWide Tryd.prog W .any base 22 u) (h : DataW.Trod enc Tryd.prog W 0 (fun _ => true) true 22 u d p) (c : Int) (_ : (Lit.int .i64 c).wf = true) (u' : Value) {base' : Nat} {d' : DataW H} {p' : List MemPlace} (hv' : Value.okWide Tryd.prog W .any base' 25 u') (h' : DataW.Trod enc Tryd.prog W 0 (fun _ => true) true 25 u' d' p') (_ : laidMetH Tryd.prog Rows.markWidensRow.laid W) : Calls Tryd.prog 5 #[u, .int .i64 c, u'] W (Yes W) := by
  obtain ⟨L, hL, _⟩ := cells_arg hv h
  obtain ⟨A, hA, _⟩ := opens_arg Tryd.underlying25 (by kernel_rfl) (by decide) (opens_int (k := .i32) Tryd.underlying21 (by kernel_rfl)) hv' h'
  exact walkH W u L _ hL c u' A _ hA

theorem door_met (os : Os) : laidMetH Tryd.prog Rows.markWidensRow.laid ((World.doorLaid Tryd.prog 400 os).forCall (fun _ _ => 0) ⟨#[], #[.slice none 0 0, .int .i64 0, .slice none 0 0], []⟩).memory :=
  laidMetH_of_parts3 (fuel := 8) (laidMet_of_run' 8 (by kernel_rfl) (by kernel_rfl)) (by kernel_rfl) (by kernel_rfl)

set_option maxRecDepth 100000 in
theorem lifted (os : Os) (started : os.Started) (H : Type) (enc : TypeId × Value → H) :
    ReturnsInHanded {} Tryd.checked os 5 .any (fun w args => (Rows.markWidensSpec.pre enc Tryd.prog Tryd.f5 [] false w args ∧ laidMetH Tryd.prog Rows.markWidensRow.laid w) ∧ sizedMet enc Tryd.prog Tryd.f5 (OpenSpec.ofChange Rows.markWidensSpec) false w args)
      (Rows.markWidensSpec.post enc Tryd.prog Tryd.f5 false true false false) := by
  refine law_frame (C := Tryd.checked) (tb := 4) (by kernel_rfl) started (by kernel_rfl) Tryd.func5 (by kernel_rfl) (by kernel_rfl) Tryd.underlying4 rfl
    (by rw [Tryd.params5]; intro t ht; simp at ht; rcases ht with rfl | rfl | rfl <;> exact ⟨by kernel_rfl, of_decide_eq_true (by kernel_rfl)⟩)
    (by rw [Tryd.params5]; intro ds hd; match ds, hd with | [_, _, _], _ => rfl)
    (ChangeSpec.witness_shaped (enc := enc) (C := Tryd.checked) (os := os) (X := fun w _ => laidMetH Tryd.prog Rows.markWidensRow.laid w) false (World.doorLaid Tryd.prog 400 os) #[.slice none 0 0, .int .i64 0, .slice none 0 0] 8 rfl (World.shaped_of_RefB (by kernel_rfl) (by kernel_rfl)) (by kernel_rfl) (by kernel_rfl) (by kernel_rfl) (door_met os)) ?_
  intro W base args ds before hval hA hsz hL
  rw [Tryd.params5] at hA hval
  obtain ⟨v0, vs0, d0, ds0, p0, q0, hargs, rfl, rfl, h0, r0⟩ := trodAll_cons hA
  obtain ⟨v1, vs1, d1, ds1, p1, q1, rfl, rfl, rfl, h1, r1⟩ := trodAll_cons r0
  obtain ⟨v2, vs2, d2, ds2, p2, q2, rfl, rfl, rfl, h2, r2⟩ := trodAll_cons r1
  obtain ⟨rfl, rfl, rfl⟩ := trodAll_nil r2
  obtain rfl : args = #[v0, v1, v2] := by cases args; simp_all
  obtain ⟨x1, rfl, rfl, rfl, wx1⟩ := open_int Tryd.underlying3 (hval 1 3 v1 rfl rfl) h1
  exact walk W v0 (hval 0 22 v0 rfl rfl) h0 x1 wx1 v2 (hval 2 25 v2 rfl rfl) h2 hL

theorem said : Rows.MarkWidensSaid :=
  OpenClaim.holds_of_wide 5 Tryd.f5 rfl rfl rfl rfl rfl rfl rfl ⟨rfl, rfl, rfl, rfl, rfl⟩ rfl rfl rfl rfl rfl (by kernel_rfl) Tryd.func5 (by kernel_rfl)
    (of_decide_eq_true (by kernel_rfl)) (by unfold Func.isWrapper; first | (rw [if_pos (by decide +kernel)]; kernel_rfl) | (rw [if_neg (by decide +kernel)]; exact ⟨rfl, rfl⟩))
    (fun os started H enc _ => lifted os started H enc)

theorem plain (f : FuncId) (fn : Func) (hf : Tryd.pinned.checked.prog.funcNamed "linotype/linotypelaw25.MarkWidens" = some f) (hfn : Tryd.pinned.checked.prog.funcs[f]? = some fn) :
    true = Tryd.pinned.checked.prog.looks [] ∧ ∀ (j : Nat) t, fn.params[j]? = some t → Tryd.pinned.checked.prog.wantsStandIn t = false := by
  obtain rfl : f = 5 := Option.some.inj ((show Tryd.prog.funcNamed "linotype/linotypelaw25.MarkWidens" = some 5 by kernel_rfl).symm.trans hf) |>.symm
  obtain rfl : fn = Tryd.f5 := (Option.some.inj (Tryd.func5.symm.trans hfn)).symm
  refine ⟨by kernel_rfl, fun j t ht => ?_⟩
  rw [Tryd.params5] at ht
  have hm : t ∈ [22, 3, 25] := by simpa using Array.mem_of_getElem? ht
  have hall : ([22, 3, 25].all fun u => !Tryd.prog.wantsStandIn u) = true := by kernel_rfl
  exact (show Tryd.prog.wantsStandIn t = false by simpa using List.all_eq_true.1 hall t hm)

/-- THE CARD. -/
theorem card : Rows.MarkWidensCardSaid :=
  Claim7.holds_tied_plain_at .later [] _ _ _ _ said (fun _ h => by cases h) (by kernel_rfl) (fun _ h => by cases h) markWidens_row_tie rfl ⟨rfl, rfl⟩ (by kernel_rfl) rfl plain (by kernel_rfl)
#print axioms card

end Go.Proofs.YtomfclkldmmmgaaDoor.lawMarkWidens
