/- SegBreaks (15.2) answers true at any two rows of properties and any number, and turns nothing. No conditions. -/
import Derived.Test.YthdnglkgjcgffaaSegB
import Derived.Test.YthdnglkgjcgffaaFrame
import Derived.Test.YthdnglkgjcgffaaRows
import Derived.ProofKit
import Derived.Lib.SmallJoins
import Derived.Deep.RegionWith
namespace Go.Proofs.Ythdnglkgjcgffaa.lawSegBreaks
open Go.ChangeShapes Go.WideShapes Go.ChangeAt Go.RowKit
theorem below_drew {B : Nat} {w w' : World} (h : Below B w w') : Below B w w'.drew := ⟨h.os, h.tape, h.output, h.size, h.block⟩
theorem at_mono {w : World} {g : Nat} {xs ys : List Pr} {k m : Nat} (h : At w g xs k) (h1 : decide (0 < k) = decide (0 < m)) (h2 : lSt xs k = lSt ys m) (h3 : cSt xs k = cSt ys m) (h4 : pSt xs k = pSt ys m) (h5 : oSt xs k = oSt ys m) : At w g ys m := by
  unfold At at *
  rw [← h1, ← h2, ← h3, ← h4, ← h5]
  exact h
theorem at_but {w w' : World} {g g' : Nat} {xs : List Pr} {k : Nat} (h : At w g xs k) (hb : But g' w.heap.size w w') (hn : g ≠ g') : At w' g xs k := Has.but h hb h.lt hn
theorem HeldP.but {w w' : World} {v : Value} {xs : List Pr} {B g : Nat} (h : HeldP w v xs) (hb : Below w.heap.size w w') : HeldP w' v xs := h.below hb
theorem brk_two (c : Int) : wrap64 (2 + wrap64 ((IntKind.u64.wrap c).tmod 2)) = 2 ∨ wrap64 (2 + wrap64 ((IntKind.u64.wrap c).tmod 2)) = 3 := by
  have h0 : 0 ≤ IntKind.u64.wrap c := by rw [IntKind.wrap_u64]; omega
  rw [Int.tmod_eq_emod_of_nonneg h0]
  have h1 : IntKind.u64.wrap c % 2 = 0 ∨ IntKind.u64.wrap c % 2 = 1 := by omega
  rcases h1 with h | h <;> rw [h]
  · exact .inl (by decide +kernel)
  · exact .inr (by decide +kernel)
theorem three_new (w : World) (B : Int) : ∃ W, W = ((w.alloc (.cells #[.int .i64 B, .bool false, .int .i64 0, .int .i64 0] 29)).alloc (.cells #[.bool false, .int .i64 0, .int .u8 0, .int .u8 0, .bool false] 26)).alloc (.cells #[.bool false, .int .i64 0, .int .u8 0, .int .u8 0, .bool false] 26) ∧
    Has W w.heap.size [.int .i64 B, .bool false, .int .i64 0, .int .i64 0] 29 ∧ SegAt W (w.heap.size + 1) false 0 0 0 false ∧ SegAt W (w.heap.size + 1 + 1) false 0 0 0 false ∧ Below w.heap.size w W := by
  refine ⟨_, rfl, ((Has.new w _ _).alloc _).alloc _, (has_at (by simp)).alloc _, has_at (by simp), ?_⟩
  exact (((Below.refl _ _).alloc (Nat.le_refl _) _).alloc (by simp) _).alloc (by simp; omega) _
theorem at_one {w : World} {g : Nat} {B n p : Int} {o : Bool} {bs : List Pr} (hB : B = 2 ∨ B = 3) (p0 : 0 ≤ p) (p1 : p ≤ 255) (hp : p = 0 ∨ p = 1 ∨ p = 2) (h : SegAt w g true B (conjI n 0) (picI p B false) (B == 6 && !o)) : At w g (⟨B, false, 0, 0⟩ :: bs) 1 := by
  have e1 : conjI n 0 = 0 := by unfold conjI; simp
  have e2 : picI p B false = 0 := by unfold picI; simp; omega
  have e3 : (B == 6 && !o) = false := by rcases hB with rfl | rfl <;> rfl
  rw [e1, e2, e3] at h
  have f1 : lSt (⟨B, false, 0, 0⟩ :: bs) 1 = B := rfl
  have f2 : cSt (⟨B, false, 0, 0⟩ :: bs) 1 = 0 := rfl
  have f3 : pSt (⟨B, false, 0, 0⟩ :: bs) 1 = 0 := by show picI 0 B false = 0; unfold picI; simp
  have f4 : oSt (⟨B, false, 0, 0⟩ :: bs) 1 = false := by show (B == 6 && !false) = false; rcases hB with rfl | rfl <;> rfl
  unfold At
  rw [f1, f2, f3, f4]
  exact h
set_option maxRecDepth 100000 in
set_option maxHeartbeats 1000000 in
theorem walkH (w : World) (v u : Value) (c : Int) (as_ bs : List Pr) (ha : HeldP w v as_) (hb : HeldP w u bs) (hc : (Lit.int .i64 c).wf = true) : Calls Try.prog 4 #[v, u, .int .i64 c] w (Yes w) := by
  obtain ⟨ao, ca, rfl, _⟩ := id ha
  obtain ⟨bo, cb, rfl, _⟩ := id hb
  have HA := Lib.hid ha
  have HB := Lib.hid hb
  have c0 := bounds_i64 hc
  clear hc
  by_cases hl : 200 < as_.length
  · clear ha hb
    go_enter Try.func4, Try.ntmps4
    go_wp2_with fail
    refine (works15_any _).mono ?_
    rintro e w1 ⟨rfl, b1⟩
    go_wp2_with fail
    refine (works15_any _).mono ?_
    rintro e w2 ⟨rfl, b2⟩
    go_wp2
    go_ret
    exact ⟨(ret_eq (by first | rfl | (simp <;> omega))), b1.trans (b2.mono b1.size)⟩
  by_cases hl2 : 200 < bs.length
  · clear ha hb
    go_enter Try.func4, Try.ntmps4
    go_wp2_with fail
    refine (works15_any _).mono ?_
    rintro e w1 ⟨rfl, b1⟩
    go_wp2_with fail
    refine (works15_any _).mono ?_
    rintro e w2 ⟨rfl, b2⟩
    go_wp2
    go_ret
    exact ⟨(ret_eq (by first | rfl | (simp <;> omega))), b1.trans (b2.mono b1.size)⟩
  obtain ⟨_, hca⟩ := ha.at
  obtain ⟨_, hcb⟩ := hb.at
  have HCA := Lib.hid hca
  have HCB := Lib.hid hcb
  clear hca hcb ha hb
  go_enter Try.func4, Try.ntmps4
  go_wp2_with fail
  refine (works15_any _).mono ?_
  rintro e w1 ⟨rfl, b1⟩
  go_wp2
  have hB := brk_two c
  generalize wrap64 (2 + wrap64 ((IntKind.u64.wrap c).tmod 2)) = B at *
  obtain ⟨W, hW, hp, hs, ht, hw⟩ := three_new w1 B
  rw [← hW]
  obtain ⟨gt, hgt⟩ : ∃ g, g = w1.heap.size + 1 + 1 := ⟨_, rfl⟩
  obtain ⟨gs, hgs⟩ : ∃ g, g = w1.heap.size + 1 := ⟨_, rfl⟩
  rw [← hgt, ← hgs]
  rw [← hgt] at ht
  rw [← hgs] at hs
  have hw0 := b1.trans (hw.mono b1.size)
  have hsz := b1.size
  have hgs1 : w.heap.size ≤ gs := by omega
  have hgt1 : w.heap.size ≤ gt := by omega
  have hgp : w1.heap.size ≠ gs := by omega
  have hgp2 : w1.heap.size ≠ gt := by omega
  have hgn : gt ≠ gs := by omega
  have HGS := Lib.hid hgs
  have HGT := Lib.hid hgt
  clear hgs hgt
  have HP := Lib.hid hp
  have HT := Lib.hid ht
  clear hW hp ht
  go_loopw [10] (fun i wr => ∃ k : Nat, k ≤ as_.length ∧ i = .int .i64 k ∧ At wr gs as_ k ∧ Below w.heap.size w wr ∧ But gs W.heap.size W wr) (fun i _ => as_.length - (intOf i).toNat)
  case atStart => exact ⟨0, Nat.zero_le _, rfl, hs, hw0, But.refl _ _ _⟩
  case round =>
    obtain ⟨k, hk, rfl, hat, hbw, hbt⟩ := hrel
    have HAT := Lib.hid hat
    clear hat
    by_cases hlt : k < as_.length
    · obtain ⟨b, off, rfl, hb, h0, h1, h2, h3⟩ := HCA.out k hlt
      have h0 := (hbw.cell (p := ⟨b, off + k * 4, none⟩) hb).trans h0
      have h1 := (hbw.cell (p := ⟨b, off + k * 4 + 1, none⟩) hb).trans h1
      have h2 := (hbw.cell (p := ⟨b, off + k * 4 + 2, none⟩) hb).trans h2
      have h3 := (hbw.cell (p := ⟨b, off + k * 4 + 3, none⟩) hb).trans h3
      have hst := step_at wr gs as_ k HAT.out
      obtain ⟨q, hq⟩ : ∃ q, q = as_.getD k Pr.none := ⟨_, rfl⟩
      rw [← hq] at h0 h1 h2 h3 hst
      have HST := Lib.hid hst
      clear hq hst
      go_wp2_with fail
      refine HST.out.mono ?_
      rintro e w2 ⟨rfl, hat2, hbut⟩
      have hb2 : Below w.heap.size w w2 := hbw.trans (hbut.below hbw.size (by omega))
      have hbt2 := hbt.trans (hbut.mono hbt.size)
      generalize jR as_ k = j
      clear h0 h1 h2 h3
      go_wp2
      go_roundw
      case rel => exact ⟨k + 1, by omega, by go_num, hat2, hb2, hbt2⟩
      case measure => simp [intOf] <;> omega
    · obtain ⟨bd1, bd2, bd3, bd4⟩ := st_bd as_ k
      have hp1 := HP.out.but hbt HP.out.lt (by omega)
      have HT1 := Lib.hid (HT.out.but hbt HT.out.lt (by omega))
      have x0 := hp1.cell 0 _ rfl
      have x1 := hp1.cell 1 _ rfl
      have x2 := hp1.cell 2 _ rfl
      have x3 := hp1.cell 3 _ rfl
      have HP1 := Lib.hid hp1
      clear hp1
      go_wp2_with fail
      refine (step_any gs _ _ _ _ _ B false 0 0 _ HAT.out bd1 bd2 bd3 bd4).mono ?_
      rintro e w2 ⟨rfl, hs2, hbut⟩
      have hb2 : Below w.heap.size w w2 := hbw.trans (hbut.below hbw.size (by omega))
      have hs2' : At w2 gs (⟨B, false, 0, 0⟩ :: bs) 1 := at_one hB bd3 bd4 (pSt_bd as_ k) hs2
      have HS2 := Lib.hid hs2'
      have hp2 := HP1.out.but hbut HP1.out.lt (by omega)
      have HT2 := Lib.hid (HT1.out.but hbut HT1.out.lt (by omega))
      clear x0 x1 x2 x3 hs2 hs2'
      have x0 := hp2.cell 0 _ rfl
      have x1 := hp2.cell 1 _ rfl
      have x2 := hp2.cell 2 _ rfl
      have x3 := hp2.cell 3 _ rfl
      clear hp2
      generalize joinsB _ _ _ _ _ _ _ _ = j1
      go_wp2_with fail
      refine (step_any gt false 0 0 0 false B false 0 0 _ HT2.out (by omega) (by omega) (by omega) (by omega)).mono ?_
      rintro e w3 ⟨rfl, ht3, hbut3⟩
      have hb3 : Below w.heap.size w w3 := hb2.trans (hbut3.below hb2.size (by omega))
      have ht3' : At w3 gt (⟨B, false, 0, 0⟩ :: bs) 1 := at_one hB (by omega) (by omega) (.inl rfl) ht3
      have HS3 := Lib.hid (at_but HS2.out hbut3 (by omega))
      have HT3 := Lib.hid ht3'
      clear x0 x1 x2 x3 ht3 ht3'
      generalize joinsB _ _ _ _ _ _ _ _ = j2
      go_wp2
      clear hbut hbut3 hb2 hbw hbt HAT HP1 HT1 HS2 HT2 hs hw hw0 HP bd1 bd2 bd3 bd4
      go_loopw [11] (fun i wr => ∃ m : Nat, m ≤ bs.length ∧ i = .int .i64 m ∧ At wr gs (⟨B, false, 0, 0⟩ :: bs) (m + 1) ∧ At wr gt (⟨B, false, 0, 0⟩ :: bs) (m + 1) ∧ Below w.heap.size w wr) (fun i _ => bs.length - (intOf i).toNat)
      case atStart => exact ⟨0, Nat.zero_le _, rfl, HS3.out, HT3.out, hb3⟩
      case round =>
        obtain ⟨m, hm, rfl, has, hat, hbw⟩ := hrel
        have HAS := Lib.hid has
        have HAT := Lib.hid hat
        clear has hat
        by_cases hlt : m < bs.length
        · obtain ⟨b, off, rfl, hb, h0, h1, h2, h3⟩ := HCB.out m hlt
          have HX := Lib.hid (And.intro h0 (And.intro h1 (And.intro h2 h3)))
          have h0 := (hbw.cell (p := ⟨b, off + m * 4, none⟩) hb).trans h0
          have h1 := (hbw.cell (p := ⟨b, off + m * 4 + 1, none⟩) hb).trans h1
          have h2 := (hbw.cell (p := ⟨b, off + m * 4 + 2, none⟩) hb).trans h2
          have h3 := (hbw.cell (p := ⟨b, off + m * 4 + 3, none⟩) hb).trans h3
          have hst := step_at wr.drew gs (⟨B, false, 0, 0⟩ :: bs) (m + 1) HAS.out
          have hbd := below_drew hbw
          have hle : w.heap.size ≤ gs := hgs1
          have hne : gt ≠ gs := hgn
          have hat' : At wr.drew gt (⟨B, false, 0, 0⟩ :: bs) (m + 1) := HAT.out
          have HATD := Lib.hid hat'
          clear hat'
          have hst2 := fun w' h => step_at w' gt (⟨B, false, 0, 0⟩ :: bs) (m + 1) h
          rw [show (⟨B, false, 0, 0⟩ :: bs : List Pr).getD (m + 1) Pr.none = bs.getD m Pr.none from rfl] at hst hst2
          obtain ⟨q, hq⟩ : ∃ q, q = bs.getD m Pr.none := ⟨_, rfl⟩
          rw [← hq] at h0 h1 h2 h3 hst hst2 HX
          have HST := Lib.hid hst
          have HST2 := Lib.hid hst2
          clear hq hst hst2
          go_wp2_with fail
          go_region_with (first
            | (go_at_call_of 13 gs; refine (HST.out).mono ?_; rintro e w2 ⟨rfl, has2, hbut2⟩; have hb2 := hbd.trans (hbut2.below hbd.size hle); have h0 := (hb2.cell (p := ⟨b, off + m * 4, none⟩) hb).trans HX.out.1; have h1 := (hb2.cell (p := ⟨b, off + m * 4 + 1, none⟩) hb).trans HX.out.2.1; have h2 := (hb2.cell (p := ⟨b, off + m * 4 + 2, none⟩) hb).trans HX.out.2.2.1; have h3 := (hb2.cell (p := ⟨b, off + m * 4 + 3, none⟩) hb).trans HX.out.2.2.2)
            | (go_at_call_of 13 gt; refine (HST2.out _ (at_but HATD.out hbut2 hne)).mono ?_; rintro e w3 ⟨rfl, hat3, hbut3⟩))
          all_goals
            have hb3 := hb2.trans (hbut3.below hb2.size hgt1)
            have has3 := at_but has2 hbut3 (fun e => hgn e.symm)
            clear h0 h1 h2 h3 hbut2 hbut3 hb2 has2 hbd
            generalize jR _ _ = j3
            go_wp2
            go_roundw
            case rel => exact ⟨m + 1, by omega, by go_num, has3, hat3, hb3⟩
            case measure => simp [intOf] <;> omega
        · go_wp2
          go_ret
          exact ⟨(ret_eq (by first | rfl | (simp <;> omega))), hbw⟩
set_option maxRecDepth 100000 in
theorem walk {H : Type} {enc : TypeId × Value → H} (W : World) {base base' : Nat} (v : Value) {d : DataW H} {p : List MemPlace} (hv : Value.okWide Try.prog W .any base 22 v) (h : DataW.Trod enc Try.prog W 0 (fun _ => true) true 22 v d p)
    (u : Value) {d' : DataW H} {p' : List MemPlace} (hv' : Value.okWide Try.prog W .any base' 22 u) (h' : DataW.Trod enc Try.prog W 0 (fun _ => true) true 22 u d' p') (c : Int) (wc : (Lit.int .i64 c).wf = true) : Calls Try.prog 4 #[v, u, .int .i64 c] W (Yes W) := by
  obtain ⟨xs, hh⟩ := open_props hv h
  obtain ⟨ys, hh'⟩ := open_props hv' h'
  exact walkH W v u c xs ys hh hh' wc

set_option maxRecDepth 100000 in
theorem lifted (os : Os) (started : os.Started) (H : Type) (enc : TypeId × Value → H) :
    ReturnsInHanded {} Try.checked os 4 .any (Rows.segBreaksSpec.pre6 enc Try.prog Try.f4 Rows.segBreaksRow.domain false) (Rows.segBreaksSpec.post enc Try.prog Try.f4 false true false false) := by
  refine law_frame_plain (C := Try.checked) (tb := 4) (by kernel_rfl) started (by kernel_rfl) Try.func4 (by kernel_rfl) (by kernel_rfl) Try.underlying4 rfl
    (by rw [Try.params4]; intro t ht; simp at ht; rcases ht with rfl | rfl <;> exact ⟨by kernel_rfl, of_decide_eq_true (by kernel_rfl)⟩)
    (by rw [Try.params4]; intro ds hd; match ds, hd with | [_, _, _], _ => rfl)
    (ChangeSpec.witness6 (enc := enc) (C := Try.checked) false ⟨#[], #[.slice none 0 0, .slice none 0 0, .int .i64 0], []⟩ 8 (by kernel_rfl) (by kernel_rfl) (by kernel_rfl) (by kernel_rfl)) ?_
  intro W base args ds before hval hA
  rw [Try.params4] at hA hval
  obtain ⟨v0, vs0, d0, ds0, p0, q0, hargs, rfl, rfl, h0, r0⟩ := trodAll_cons hA
  obtain ⟨v1, vs1, d1, ds1, p1, q1, rfl, rfl, rfl, h1, r1⟩ := trodAll_cons r0
  obtain ⟨v2, vs2, d2, ds2, p2, q2, rfl, rfl, rfl, h2, r2⟩ := trodAll_cons r1
  obtain ⟨rfl, rfl, rfl⟩ := trodAll_nil r2
  obtain rfl : args = #[v0, v1, v2] := by cases args; simp_all
  obtain ⟨x2, rfl, rfl, rfl, wx2⟩ := open_int Try.underlying3 (hval 2 3 v2 rfl rfl) h2
  exact walk W v0 (hval 0 22 v0 rfl rfl) h0 v1 (hval 1 22 v1 rfl rfl) h1 x2 wx2

theorem proved : Rows.SegBreaksSaid :=
  OpenClaim.holds_of_wide 4 Try.f4 rfl rfl rfl rfl rfl rfl rfl ⟨rfl, rfl, rfl, rfl, rfl⟩ rfl rfl rfl rfl rfl (by kernel_rfl) Try.func4 (by kernel_rfl)
    (of_decide_eq_true (by kernel_rfl)) (by unfold Func.isWrapper; first | (rw [if_pos (by decide +kernel)]; kernel_rfl) | (rw [if_neg (by decide +kernel)]; exact ⟨rfl, rfl⟩))
    (fun os started H enc _ => lifted os started H enc)
#print axioms proved

end Go.Proofs.Ythdnglkgjcgffaa.lawSegBreaks
