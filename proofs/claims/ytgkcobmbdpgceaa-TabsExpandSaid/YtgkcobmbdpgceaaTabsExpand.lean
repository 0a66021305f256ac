/- TabsExpand (57.1, 57.3) answers true at every text, columns and number, and turns nothing. No condition. -/
import Derived.Test.YtgkcobmbdpgceaaTbsW
import Derived.Test.YtgkcobmbdpgceaaTbsE
import Derived.Test.YtgkcobmbdpgceaaMg7
import Derived.Test.YtgkcobmbdpgceaaMg2
import Derived.Test.YtgkcobmbdpgceaaMg1
import Derived.Test.YtgkcobmbdpgceaaRows
import Derived.ProofKit
import Derived.Lib.MinMax
import Derived.Deep.Cut
namespace Go.Proofs.Ytgkcobmbdpgceaa.lawTabsExpand
open Go.ChangeShapes Go.WideShapes Go.ChangeAt Go.RowKit
set_option maxRecDepth 100000 in
set_option maxHeartbeats 3000000 in
theorem walkN (W : World) (v u : Value) (xs cols : List Int) (Wd : Int) (hv : HeldE (intE .i32) (fun b => b < W.heap.size) W v xs) (hu : Held .i64 W u cols) (hr : bounds32 xs) (hn : xs.length ≤ 200) (hm : cols.length ≤ 40) : Calls Try.prog 9 #[v, u, .int .i64 Wd] W (Yes W) := by
  obtain ⟨ao, ca, rfl⟩ := hv.len
  obtain ⟨bo, cb, rfl⟩ := hu.len
  have hd1 : decide ((200 : Int) < xs.length) = false := by rw [decide_eq_false_iff_not]; omega
  have hd2 : decide (200 < xs.length) = false := by rw [decide_eq_false_iff_not]; omega
  have hd3 : decide ((40 : Int) < cols.length) = false := by rw [decide_eq_false_iff_not]; omega
  have hd4 : decide (40 < cols.length) = false := by rw [decide_eq_false_iff_not]; omega
  have HOF := Lib.hid (show ∀ w', Below W.heap.size W w' → Calls Try.prog 29 #[.slice bo cols.length cb] w' (StMade w' (ofF cols)) from fun w' b => tof_any _ cols w' (hu.below b) (by omega))
  have HEX := Lib.hid (show ∀ (g : Nat) (F : Nat → Bool) w', Below W.heap.size W w' → StAt w' g F → Calls Try.prog 38 #[.pointer (some ⟨g, 0, none⟩), .slice ao xs.length ca] w' (Cloned 21 .i32 w' (expC F xs)) from fun g F w' b h => texp_any g F _ xs w' h (hv.ints.below b) (by omega))
  have HRC := Lib.hid (show ∀ w', Below W.heap.size W w' → Calls Try.prog 39 #[.slice bo cols.length cb, .slice ao xs.length ca] w' (Cloned 21 .i32 w' (expC (ofF cols) xs)) from fun w' b => rexp_any _ _ cols xs w' (hu.below b) ((hv.below b).zone (fun x hx _ => hx)) (by omega) (by omega) hr)
  have HRA := Lib.hid (show ∀ (av : Value) (l : List Int) w', Below W.heap.size W w' → Held .i64 w' av l → l.length ≤ 1000000 → Calls Try.prog 39 #[av, .slice ao xs.length ca] w' (Cloned 21 .i32 w' (expC (ofF l) xs)) from fun av l w' b h hl => rexp_any _ _ l xs w' h ((hv.below b).zone (fun x hx _ => hx)) (by omega) hl hr)
  have hne : max 1 (min Wd 1024) = (evN Wd : Int) := by unfold evN; omega
  have HNE := Lib.hid hne
  have hb := evN_bd Wd
  have HD := Lib.hid (show everyL Wd = mulL (evN Wd) (1023 / evN Wd) from rfl)
  obtain ⟨n, hn9⟩ : ∃ n, n = evN Wd := ⟨_, rfl⟩
  rw [← hn9] at HNE hb HD
  have HBN := Lib.hid hb
  have HEA := Lib.hid (every_all Wd)
  obtain ⟨xl, hxl⟩ : ∃ xl, xl = xs.length := ⟨_, rfl⟩
  obtain ⟨cl, hcl⟩ : ∃ cl, cl = cols.length := ⟨_, rfl⟩
  rw [← hxl] at HEX HRC HRA hd1 hd2 ⊢
  rw [← hcl] at HOF HRC hd3 hd4 ⊢
  clear hv hu hr hn hm hne hn9 hb hxl hcl
  go_enter Try.func9, Try.ntmps9
  go_wp2_with fail
  refine (works57_any _).mono ?_
  rintro e w1 ⟨rfl, b1⟩
  have B1 := Lib.hid b1
  clear b1
  go_upto_region 5 with (fail)
  clear hd1 hd2 hd3 hd4
  rw [HNE.out]
  go_wp2
  go_loopw [7, 9] (fun av cv wr => ∃ j c : Nat, c = (j + 1) * n ∧ j * n ≤ 1023 ∧ cv = .int .i64 c ∧ OwnE (intE .i64) (fun _ => True) wr w1.heap.size 3 av (mulL n j) ∧ Below w1.heap.size w1 wr) (fun _ cv _ => 2048 - (intOf cv).toNat)
  case atStart => exact ⟨0, n, by omega, by omega, rfl, OwnE.nil _ _ _ _ _, Below.refl _ _⟩
  case round =>
    obtain ⟨j, c, hc, hj, rfl, hown, hbw⟩ := hrel
    obtain ⟨av, hav⟩ : ∃ av, av = u7 := ⟨_, rfl⟩
    rw [← hav] at hown ⊢
    obtain ⟨wk, hwk⟩ : ∃ wk, wk = wr := ⟨_, rfl⟩
    subst hwk
    have HO := Lib.hid hown
    have HBW := Lib.hid hbw
    clear hav hown hbw
    have hcs : (j + 1) * n = j * n + n := Nat.succ_mul j n
    have hj9 : j ≤ 1023 := by
      have h3 : j * 1 ≤ j * n := Nat.mul_le_mul_left j HBN.out.1
      omega
    by_cases hlt : c ≤ 1023
    · have hg : decide ((c : Int) ≤ 1023) = true := by rw [decide_eq_true_eq]; omega
      have hms := mulL_succ n j
      rw [← hc] at hms
      have HMS := Lib.hid hms
      have hwa : IntKind.i64.wrap ((c : Int) + (n : Int)) = (c : Int) + (n : Int) := by rw [IntKind.wrap_i64]; have := HBN.out; omega
      have HNX := Lib.hid (show c + n = (j + 1 + 1) * n ∧ (j + 1) * n ≤ 1023 from ⟨by rw [Nat.succ_mul (j + 1) n, ← hc], by omega⟩)
      have HLT := Lib.hid hlt
      have HML := Lib.hid (show (mulL n j).length ≤ 1023 from by rw [mulL_len]; exact hj9)
      obtain ⟨ML, hML⟩ : ∃ ML, ML = mulL n j := ⟨_, rfl⟩
      rw [← hML] at HMS HML HO
      have b0 := (Below.refl wk.heap.size wk).alloc (Nat.le_refl _) (.cells [.int .i64 (c : Int)].toArray 3)
      have HO1 := Lib.hid (HO.out.below b0)
      have HB1 := Lib.hid (HBW.out.trans (b0.mono HBW.out.size))
      have HU := Lib.hid (show HeldE (intE .i64) (fun b => True ∧ av.ownBlock ≠ some b) (wk.alloc (.cells [.int .i64 (c : Int)].toArray 3)) (.slice (some ⟨wk.heap.size, 0, none⟩) 1 1) [(c : Int)] from heldE_one (E := intE .i64) (Y := fun _ => False) [.int .i64 (c : Int)] (c : Int) rfl (fun _ _ h => h.elim) ⟨trivial, fun e => by have := (HO.out.lt _ e).2; omega⟩)
      clear hms hc hcs hlt hj9 b0 hML
      go_wp2_with (at_builtin; refine wpList_append_e (E := intE .i64) (Z := fun _ => True) rfl (.tmp 33) (.tmp 35) 46 rfl (.int .i64 0) 8 Try.underlying46 info_i8 rfl (by decide) rfl rfl HO1.out HU.out (by simp only [List.length_singleton]; have := HML.out; omega) (by simp only [List.length_singleton]; have := HML.out; omega) HB1.out.size ?_)
      intro v2 w2 ho2 b2 _ _
      rw [← HMS.out] at ho2
      have HF1 := Lib.hid ho2
      have HF2 := Lib.hid (HB1.out.trans b2)
      clear ho2 b2
      go_wp2
      go_roundw
      case rel => exact ⟨j + 1, c + n, HNX.out.1, HNX.out.2, by go_num, HF1.out, HF2.out⟩
      case measure => have := HBN.out; have := HLT.out; simp [intOf] <;> omega
    · have hg : decide ((c : Int) ≤ 1023) = false := by rw [decide_eq_false_iff_not]; omega
      have hd := div_is (n := n) (j := j) HBN.out.1 hj (by omega)
      have ho := HO.out
      have hlen : (everyL Wd).length = j := by rw [HD.out, mulL_len]; exact hd
      rw [← hd, ← HD.out] at ho
      have hh := ho.held (Z := fun _ => True) (fun _ _ _ => trivial)
      obtain ⟨a9, c9, rfl⟩ := hh.len
      have HH := Lib.hid hh
      have HBK := Lib.hid (B1.out.trans (HBW.out.mono B1.out.size))
      have HRE := Lib.hid (show ∀ w', Below W.heap.size W w' → Held .i64 w' (.slice a9 (everyL Wd).length c9) (everyL Wd) → Calls Try.prog 39 #[.slice a9 (everyL Wd).length c9, .slice ao xl ca] w' (Cloned 21 .i32 w' (expC (ofF (everyL Wd)) xs)) from fun w' b h => HRA.out _ _ w' b h (by rw [hlen]; omega))
      rw [hlen] at HRE HH ⊢
      rw [hlen] at HEA
      clear hd hc hcs hj ho hh hlen hlt hj9 HO
      by_cases h100 : 100 < n
      · have hg2 : decide ((100 : Int) < (n : Int)) = true := by rw [decide_eq_true_eq]; omega
        have h1 := tevery_any Wd wk
        go_wp2_with fail
        refine h1.mono ?_
        clear h1 h100
        rintro e wa ⟨ga, rfl, hga, hsta, ba⟩
        have h2 := tall_any ga _ wa hsta
        have HBA := Lib.hid ba
        clear hsta ba hga
        go_wp2_with fail
        refine h2.mono ?_
        clear h2
        rintro e wf ⟨vb, rfl, hob, bb⟩
        obtain ⟨ab, cb9, eb⟩ := (hob.held (Z := fun _ => True) (fun _ _ _ => trivial)).len
        rw [HEA.out] at eb
        subst eb
        have hjj : ((j : Int) != (j : Int)) = false := by simp
        have HKF := Lib.hid (show Below wk.heap.size wk wf from HBA.out.trans (bb.mono HBA.out.size))
        have HBF := Lib.hid (HBK.out.trans (HKF.out.mono HBK.out.size))
        have HAV := Lib.hid (show ∀ w', Below wf.heap.size wf w' → Held .i64 w' (.slice a9 j c9) (everyL Wd) from fun w' b => (HH.out.ints.below HKF.out).below b)
        clear hob bb
        have h1 := HOF.out wf HBF.out
        go_wp2_with fail
        refine h1.mono ?_
        clear h1
        rintro e w2 ⟨g1, rfl, hg1, hst1, b2⟩
        have HB2 := Lib.hid (HBF.out.trans (b2.mono HBF.out.size))
        have HQ2 := Lib.hid b2
        have h2 := HEX.out g1 _ w2 HB2.out hst1
        clear hst1 b2 hg1
        go_wp2_with fail
        refine h2.mono ?_
        clear h2
        rintro e w3 ⟨v3, rfl, ho3, b3⟩
        have HO3 := Lib.hid (held_of_owns ho3)
        have HM3 := Lib.hid (show (expC (ofF cols) xs).length ≤ 9223372036854775807 from ((ownE_ints (Z := fun _ => True) ho3).held (Z := fun _ => True) (fun _ _ _ => trivial)).max)
        have HB3 := Lib.hid (HB2.out.trans (b3.mono HB2.out.size))
        have HQ3 := Lib.hid (HQ2.out.trans (b3.mono HQ2.out.size))
        have h3 := HRC.out w3 HB3.out
        clear ho3 b3
        go_wp2_with fail
        refine h3.mono ?_
        clear h3
        rintro e w4 ⟨v4, rfl, ho4, b4⟩
        have h4 := same_any v3 v4 _ _ w4 (HO3.out.below b4) (held_of_owns ho4) HM3.out
        rw [sameB_self] at h4
        have HB4 := Lib.hid (HB3.out.trans (b4.mono HB3.out.size))
        have HQ4 := Lib.hid (HQ3.out.trans (b4.mono HQ3.out.size))
        clear ho4 b4 HO3
        go_wp2_with fail
        refine h4.mono ?_
        clear h4
        rintro e w5 ⟨rfl, b5⟩
        have HB5 := Lib.hid (HB4.out.trans (b5.mono HB4.out.size))
        have HQ5 := Lib.hid (HQ4.out.trans (b5.mono HQ4.out.size))
        clear b5
        have h5 := tevery_any Wd w5
        go_wp2_with fail
        refine h5.mono ?_
        clear h5
        rintro e w6 ⟨g2, rfl, hg2, hst2, b6⟩
        have HB6 := Lib.hid (HB5.out.trans (b6.mono HB5.out.size))
        have HQ6 := Lib.hid (HQ5.out.trans (b6.mono HQ5.out.size))
        have h6 := HEX.out g2 _ w6 HB6.out hst2
        clear hst2 b6 hg2
        go_wp2_with fail
        refine h6.mono ?_
        clear h6
        rintro e w7 ⟨v7, rfl, ho7, b7⟩
        have HO7 := Lib.hid (held_of_owns ho7)
        have HM7 := Lib.hid (show (expC (ofF (everyL Wd)) xs).length ≤ 9223372036854775807 from ((ownE_ints (Z := fun _ => True) ho7).held (Z := fun _ => True) (fun _ _ _ => trivial)).max)
        have HB7 := Lib.hid (HB6.out.trans (b7.mono HB6.out.size))
        have HQ7 := Lib.hid (HQ6.out.trans (b7.mono HQ6.out.size))
        have h7 := HRE.out w7 HB7.out (HAV.out w7 HQ7.out)
        clear ho7 b7
        go_wp2_with fail
        refine h7.mono ?_
        clear h7
        rintro e w8 ⟨v8, rfl, ho8, b8⟩
        have h8 := same_any v7 v8 _ _ w8 (HO7.out.below b8) (held_of_owns ho8) HM7.out
        rw [sameB_self] at h8
        have HB8 := Lib.hid (HB7.out.trans (b8.mono HB7.out.size))
        clear ho8 b8 HO7
        go_wp2_with fail
        refine h8.mono ?_
        clear h8
        rintro e w9 ⟨rfl, b9⟩
        have HF := Lib.hid (HB8.out.trans (b9.mono HB8.out.size))
        clear b9
        go_wp2
        go_ret
        exact ⟨(ret_eq (by first | rfl | (simp <;> omega))), HF.out⟩
      · have hg2 : decide ((100 : Int) < (n : Int)) = false := by rw [decide_eq_false_iff_not]; omega
        obtain ⟨wf, hwf⟩ : ∃ wf, wf = wk := ⟨_, rfl⟩
        subst hwf
        have HBF := Lib.hid HBK.out
        have HAV := Lib.hid (show ∀ w', Below wf.heap.size wf w' → Held .i64 w' (.slice a9 j c9) (everyL Wd) from fun w' b => HH.out.ints.below b)
        clear h100
        have h1 := HOF.out wf HBF.out
        go_wp2_with fail
        refine h1.mono ?_
        clear h1
        rintro e w2 ⟨g1, rfl, hg1, hst1, b2⟩
        have HB2 := Lib.hid (HBF.out.trans (b2.mono HBF.out.size))
        have HQ2 := Lib.hid b2
        have h2 := HEX.out g1 _ w2 HB2.out hst1
        clear hst1 b2 hg1
        go_wp2_with fail
        refine h2.mono ?_
        clear h2
        rintro e w3 ⟨v3, rfl, ho3, b3⟩
        have HO3 := Lib.hid (held_of_owns ho3)
        have HM3 := Lib.hid (show (expC (ofF cols) xs).length ≤ 9223372036854775807 from ((ownE_ints (Z := fun _ => True) ho3).held (Z := fun _ => True) (fun _ _ _ => trivial)).max)
        have HB3 := Lib.hid (HB2.out.trans (b3.mono HB2.out.size))
        have HQ3 := Lib.hid (HQ2.out.trans (b3.mono HQ2.out.size))
        have h3 := HRC.out w3 HB3.out
        clear ho3 b3
        go_wp2_with fail
        refine h3.mono ?_
        clear h3
        rintro e w4 ⟨v4, rfl, ho4, b4⟩
        have h4 := same_any v3 v4 _ _ w4 (HO3.out.below b4) (held_of_owns ho4) HM3.out
        rw [sameB_self] at h4
        have HB4 := Lib.hid (HB3.out.trans (b4.mono HB3.out.size))
        have HQ4 := Lib.hid (HQ3.out.trans (b4.mono HQ3.out.size))
        clear ho4 b4 HO3
        go_wp2_with fail
        refine h4.mono ?_
        clear h4
        rintro e w5 ⟨rfl, b5⟩
        have HB5 := Lib.hid (HB4.out.trans (b5.mono HB4.out.size))
        have HQ5 := Lib.hid (HQ4.out.trans (b5.mono HQ4.out.size))
        clear b5
        have h5 := tevery_any Wd w5
        go_wp2_with fail
        refine h5.mono ?_
        clear h5
        rintro e w6 ⟨g2, rfl, hg2, hst2, b6⟩
        have HB6 := Lib.hid (HB5.out.trans (b6.mono HB5.out.size))
        have HQ6 := Lib.hid (HQ5.out.trans (b6.mono HQ5.out.size))
        have h6 := HEX.out g2 _ w6 HB6.out hst2
        clear hst2 b6 hg2
        go_wp2_with fail
        refine h6.mono ?_
        clear h6
        rintro e w7 ⟨v7, rfl, ho7, b7⟩
        have HO7 := Lib.hid (held_of_owns ho7)
        have HM7 := Lib.hid (show (expC (ofF (everyL Wd)) xs).length ≤ 9223372036854775807 from ((ownE_ints (Z := fun _ => True) ho7).held (Z := fun _ => True) (fun _ _ _ => trivial)).max)
        have HB7 := Lib.hid (HB6.out.trans (b7.mono HB6.out.size))
        have HQ7 := Lib.hid (HQ6.out.trans (b7.mono HQ6.out.size))
        have h7 := HRE.out w7 HB7.out (HAV.out w7 HQ7.out)
        clear ho7 b7
        go_wp2_with fail
        refine h7.mono ?_
        clear h7
        rintro e w8 ⟨v8, rfl, ho8, b8⟩
        have h8 := same_any v7 v8 _ _ w8 (HO7.out.below b8) (held_of_owns ho8) HM7.out
        rw [sameB_self] at h8
        have HB8 := Lib.hid (HB7.out.trans (b8.mono HB7.out.size))
        clear ho8 b8 HO7
        go_wp2_with fail
        refine h8.mono ?_
        clear h8
        rintro e w9 ⟨rfl, b9⟩
        have HF := Lib.hid (HB8.out.trans (b9.mono HB8.out.size))
        clear b9
        go_wp2
        go_ret
        exact ⟨(ret_eq (by first | rfl | (simp <;> omega))), HF.out⟩
set_option maxRecDepth 100000 in
theorem walk {H : Type} {enc : TypeId × Value → H} (W : World) (v : Value) {base : Nat} {d : DataW H} {p : List MemPlace} (hv : Value.okWide Try.prog W .any base 22 v) (h : DataW.Trod enc Try.prog W 0 (fun _ => true) true 22 v d p) (u : Value) (cols : List Int) (hu : Held .i64 W u cols) (hwf : ∀ x ∈ cols, (Lit.int .i64 x).wf = true) (Wd : Int) (hw : (Lit.int .i64 Wd).wf = true) : Calls Try.prog 9 #[v, u, .int .i64 Wd] W (Yes W) := by
  obtain ⟨xs, hx, hr⟩ := runes_arg hv h
  clear hv h
  by_cases hl : 200 < xs.length
  · obtain ⟨ao, ca, rfl⟩ := hx.len
    obtain ⟨bo, cb, rfl⟩ := hu.len
    clear hx hr hu hwf
    go_enter Try.func9, Try.ntmps9
    go_wp2_with fail
    refine (works57_any _).mono ?_
    rintro e w1 ⟨rfl, b1⟩
    go_wp2_with fail
    refine (works57_any _).mono ?_
    rintro e w2 ⟨rfl, b2⟩
    have B := b1.trans (b2.mono b1.size)
    go_wp2
    go_ret
    exact ⟨(ret_eq (by first | rfl | (simp <;> omega))), B⟩
  · by_cases hl2 : 40 < cols.length
    · obtain ⟨ao, ca, rfl⟩ := hx.len
      obtain ⟨bo, cb, rfl⟩ := hu.len
      have hd1 : decide ((200 : Int) < xs.length) = false := by rw [decide_eq_false_iff_not]; omega
      have hd2 : decide (200 < xs.length) = false := by rw [decide_eq_false_iff_not]; omega
      clear hx hr hu hwf
      go_enter Try.func9, Try.ntmps9
      go_wp2_with fail
      refine (works57_any _).mono ?_
      rintro e w1 ⟨rfl, b1⟩
      go_wp2_with fail
      refine (works57_any _).mono ?_
      rintro e w2 ⟨rfl, b2⟩
      have B := b1.trans (b2.mono b1.size)
      go_wp2
      go_ret
      exact ⟨(ret_eq (by first | rfl | (simp <;> omega))), B⟩
    · exact walkN W v u xs cols Wd hx hu hr (by omega) (by omega)

set_option maxRecDepth 100000 in
theorem lifted (os : Os) (started : os.Started) (H : Type) (enc : TypeId × Value → H) :
    ReturnsInHanded {} Try.checked os 9 .any (Rows.tabsExpandSpec.pre6 enc Try.prog Try.f9 Rows.tabsExpandRow.domain false) (Rows.tabsExpandSpec.post enc Try.prog Try.f9 false true false false) := by
  refine law_frame_plain (C := Try.checked) (tb := 4) (by kernel_rfl) started (by kernel_rfl) Try.func9 (by kernel_rfl) (by kernel_rfl) Try.underlying4 rfl
    (by rw [Try.params9]; intro t ht; simp at ht; rcases ht with rfl | rfl | rfl <;> exact ⟨by kernel_rfl, of_decide_eq_true (by kernel_rfl)⟩)
    (by rw [Try.params9]; intro ds hd; match ds, hd with | [_, _, _], _ => rfl)
    (ChangeSpec.witness6 (enc := enc) (C := Try.checked) false ⟨#[], #[.slice none 0 0, .slice none 0 0, .int .i64 0], []⟩ 8 (by kernel_rfl) (by kernel_rfl) (by kernel_rfl) (by kernel_rfl)) ?_
  intro W base args ds before hval hA
  rw [Try.params9] at hA hval
  obtain ⟨v0, vs0, d0, ds0, p0, q0, hargs, rfl, rfl, h0, r0⟩ := trodAll_cons hA
  obtain ⟨v1, vs1, d1, ds1, p1, q1, rfl, rfl, rfl, h1, r1⟩ := trodAll_cons r0
  obtain ⟨v2, vs2, d2, ds2, p2, q2, rfl, rfl, rfl, h2, r2⟩ := trodAll_cons r1
  obtain ⟨rfl, rfl, rfl⟩ := trodAll_nil r2
  obtain rfl : args = #[v0, v1, v2] := by cases args; simp_all
  obtain ⟨x1, hx1, wx1⟩ := held_arg Try.underlying43 Try.underlying3 (by kernel_rfl) (hval 1 43 v1 rfl rfl) h1
  obtain ⟨x2, rfl, rfl, rfl, wx2⟩ := open_int Try.underlying3 (hval 2 3 v2 rfl rfl) h2
  exact walk W v0 (hval 0 22 v0 rfl rfl) h0 v1 x1 hx1 wx1 x2 wx2

theorem proved : Rows.TabsExpandSaid :=
  OpenClaim.holds_of_wide 9 Try.f9 rfl rfl rfl rfl rfl rfl rfl ⟨rfl, rfl, rfl, rfl, rfl⟩ rfl rfl rfl rfl rfl (by kernel_rfl) Try.func9 (by kernel_rfl)
    (of_decide_eq_true (by kernel_rfl)) (by unfold Func.isWrapper; first | (rw [if_pos (by decide +kernel)]; kernel_rfl) | (rw [if_neg (by decide +kernel)]; exact ⟨rfl, rfl⟩))
    (fun os started H enc _ => lifted os started H enc)
#print axioms proved

end Go.Proofs.Ytgkcobmbdpgceaa.lawTabsExpand
