/- JustifyFits (58.1, 58.2) answers true at every text, width and mark, and turns nothing. No condition. -/
import Derived.Test.YtgkcobmbdpgceaaGreatMg9
import Derived.Test.YtgkcobmbdpgceaaGreatJusF
import Derived.Test.YtgkcobmbdpgceaaGreatMg8
import Derived.Test.YtgkcobmbdpgceaaGreatMg2
import Derived.Test.YtgkcobmbdpgceaaGreatMg1
import Derived.Test.YtgkcobmbdpgceaaGreatRows
import Derived.ProofKit
import Derived.Lib.MinMax
import Derived.Deep.Cut
namespace Go.Proofs.YtgkcobmbdpgceaaGreat.lawJustifyFits
open Go.ChangeShapes Go.WideShapes Go.ChangeAt Go.RowKit
set_option maxRecDepth 100000 in
set_option maxHeartbeats 3000000 in
theorem walkN (W : World) (v u : Value) (xs mk : List Int) (Wd : Int) (hv : HeldE (intE .i32) (fun b => b < W.heap.size) W v xs) (hu : HeldE (intE .i32) (fun b => b < W.heap.size) W u mk) (hr : bounds32 xs) (hrm : bounds32 mk) (hn : xs.length ≤ 60) (hm : mk.length ≤ 30) : Calls Tryz.prog 3 #[v, .int .i64 Wd, u] W (Yes W) := by
  obtain ⟨ao, ca, rfl⟩ := hv.len
  obtain ⟨bo, cb, rfl⟩ := hu.len
  have hd1 : decide ((60 : Int) < xs.length) = false := by rw [decide_eq_false_iff_not]; omega
  have hd2 : decide (60 < xs.length) = false := by rw [decide_eq_false_iff_not]; omega
  have hd3 : decide ((30 : Int) < mk.length) = false := by rw [decide_eq_false_iff_not]; omega
  have hd4 : decide (30 < mk.length) = false := by rw [decide_eq_false_iff_not]; omega
  have HV := Lib.hid hv
  have HU := Lib.hid hu
  have R2 := Lib.hid (show ∀ (side : Int) w', Below W.heap.size W w' → Calls Tryz.prog 8 #[.slice ao xs.length ca, .int .i64 Wd, .int .i64 side] w' (CatOk w' (padC Wd side xs)) from fun side w' b => rjpad_any _ xs Wd side w' ((hv.below b).zone (fun x hx _ => hx)) (by omega) hr)
  have R4 := Lib.hid (show ∀ (side : Int) w', Below W.heap.size W w' → Calls Tryz.prog 10 #[.slice ao xs.length ca, .int .i64 Wd, .int .i64 side, .slice bo mk.length cb] w' (CatOk w' (fitC Wd side xs mk)) from fun side w' b => rjfit_any _ _ xs mk Wd side w' ((hv.below b).zone (fun x hx _ => hx)) ((hu.below b).zone (fun x hx _ => hx)) (by omega) (by omega) hr hrm)
  have R6 := Lib.hid (show ∀ w', Below W.heap.size W w' → Calls Tryz.prog 12 #[.slice ao xs.length ca, .int .i64 Wd] w' (Cloned 21 .i32 w' (cutC Wd xs)) from fun w' b => rjcut_any _ xs Wd w' ((hv.below b).zone (fun x hx _ => hx)) (by omega) hr)
  obtain ⟨n, hnn⟩ : ∃ n, n = xs.length := ⟨_, rfl⟩
  have HN := Lib.hid hnn
  have HNB := Lib.hid (And.intro hn hm)
  obtain ⟨m, hmm⟩ : ∃ m, m = mk.length := ⟨_, rfl⟩
  rw [← hnn] at R2 R4 R6 HV hd1 hd2 ⊢
  rw [← hmm] at R4 HU hd3 hd4 ⊢
  clear hv hu hr hrm hn hm hnn hmm
  go_enter Tryz.func3, Tryz.ntmps3
  go_wp2_with fail
  refine (works58_any _).mono ?_
  rintro e w1 ⟨rfl, b1⟩
  have B1 := Lib.hid b1
  clear b1
  have hb2 := (Below.refl w1.heap.size w1).alloc (Nat.le_refl _) (.cells #[] 21)
  have ho2 : OwnE (intE .i32) (fun _ => True) (w1.alloc (.cells #[] 21)) w1.heap.size 21 (.slice (some ⟨w1.heap.size, 0, none⟩) 0 0) [] := OwnE.empty (World.ownsRow_lit w1 #[] 0 (Nat.le_refl _) (by decide) rfl)
  have HO2 := Lib.hid ho2
  have HB2 := Lib.hid hb2
  have HU2 := Lib.hid (show HeldE (intE .i32) (fun b9 => True ∧ (Value.slice (some ⟨w1.heap.size, 0, none⟩) 0 0).ownBlock ≠ some b9) (w1.alloc (.cells #[] 21)) (.slice ao n ca) xs from (((HV.out.below B1.out).below hb2).zone (fun b9 _ h => ⟨trivial, fun e => by simp only [Value.ownBlock, Option.some.injEq] at e; have := B1.out.size; omega⟩)))
  have hl0 : (([] : List Int).length + xs.length) * 4 ≤ 140737488355328 := by have := HNB.out; simp only [List.length_nil]; omega
  have hl1 : ([] : List Int).length + xs.length ≤ 140737488355328 := by have := HNB.out; simp only [List.length_nil]; omega
  have HL := Lib.hid (And.intro hl0 hl1)
  clear hb2 ho2 hl0 hl1
  go_wp2_with (at_builtin; refine wpList_append_e (E := intE .i32) (Z := fun _ => True) rfl (.tmp 22) (.tmp 23) 22 rfl (.int .i32 0) 4 Tryz.underlying22 info_tx8 rfl (by decide) rfl rfl HO2.out HU2.out HL.out.1 HL.out.2 HB2.out.size ?_)
  clear hd1 hd2 hd3 hd4
  intro v3 w3 ho3 b3 _ _
  try rw [List.nil_append] at ho3
  have B3 := Lib.hid (HB2.out.trans b3)
  have b4 := (Below.refl w3.heap.size w3).alloc (Nat.le_refl _) (.cells [.int .i32 7, .int .i32 7].toArray 21)
  have HO4 := Lib.hid (ho3.below b4)
  have B4 := Lib.hid (B3.out.trans (b4.mono B3.out.size))
  have HLT3 := Lib.hid ho3.lt
  have hu4 : HeldE (intE .i32) (fun b9 => True ∧ v3.ownBlock ≠ some b9) (w3.alloc (.cells [.int .i32 7, .int .i32 7].toArray 21)) (.slice (some ⟨w3.heap.size, 0, none⟩) 2 2) [7, 7] := heldE_ints (held_new .i32 w3 [.int .i32 7, .int .i32 7] 21 2 2 [7, 7] rfl rfl) (Nat.le_refl _) (by decide) (fun a e _ => by cases e; exact ⟨trivial, fun e => by have := (HLT3.out w3.heap.size e).2; omega⟩)
  have HU4 := Lib.hid hu4
  have hl0 : (xs.length + ([7, 7] : List Int).length) * 4 ≤ 140737488355328 := by have := HNB.out; simp only [List.length_cons, List.length_nil]; omega
  have hl1 : xs.length + ([7, 7] : List Int).length ≤ 140737488355328 := by have := HNB.out; simp only [List.length_cons, List.length_nil]; omega
  have HL4 := Lib.hid (And.intro hl0 hl1)
  clear ho3 b3 b4 hu4 hl0 hl1
  go_wp2_with (at_builtin; refine wpList_append_e (E := intE .i32) (Z := fun _ => True) rfl (.tmp 24) (.tmp 25) 22 rfl (.int .i32 0) 4 Tryz.underlying22 info_tx8 rfl (by decide) rfl rfl HO4.out HU4.out HL4.out.1 HL4.out.2 B4.out.size ?_)
  intro v5 w5 ho5 b5 _ _
  have B5 := Lib.hid (show Below W.heap.size W w5 from B1.out.trans ((B4.out.trans b5).mono B1.out.size))
  have hh5 := ho5.held (Z := fun _ => True) (fun _ _ _ => trivial)
  obtain ⟨g, gc, e5, hgc, _⟩ := own_some8 ho5 (by simp)
  have hlen : (xs ++ [7, 7]).length = n + 2 := by rw [HN.out]; simp
  rw [hlen] at e5 hgc
  subst e5
  have hp := hh5.part 0 n (Nat.zero_le _) (by rw [hlen]; omega) (some ⟨g, 0, none⟩) gc (fun h => by cases h) (fun b' o' h _ => by cases h; simp) (fun a h => by cases h; simp) (by omega) (by obtain ⟨_, _, e9, _, h9, _⟩ := hh5; simp only [Value.slice.injEq] at e9; rw [e9.2.2]; exact h9)
  rw [List.drop_zero, Nat.sub_zero, show List.take n (xs ++ [7, 7]) = xs from by rw [HN.out]; simp] at hp
  have h7 : w5.cell? ⟨g, n, none⟩ = some (.int .i32 7) := by
    obtain ⟨b9, o9, e9, _, _, C, q9, hC⟩ := hh5.spots.2.2 n (by rw [hlen]; omega)
    cases e9
    have hC : C = [.int .i32 ((xs ++ [7, 7]).getD n 0)] := hC
    subst hC
    have h8 : (xs ++ [7, 7]).getD n 0 = 7 := by rw [HN.out]; simp [List.getD]
    have := q9 0 (by decide)
    rw [h8] at this
    simpa [intE] using this
  have HOWN := Lib.hid hp
  have H7 := Lib.hid h7
  have HG5 := Lib.hid (World.block_lt_of_cell? _ _ h7)
  have hgn : n ≤ gc := by omega
  have hgni : (n : Int) ≤ gc := by omega
  have hgn1 : n + 1 ≤ gc := by omega
  have hgn1i : (n : Int) + 1 ≤ gc := by omega
  have hn2 : n ≤ n + 2 := by omega
  clear ho5 b5 hh5 hgc hlen hp h7
  have P1 := Lib.hid (show ∀ (side : Int) w', Below w5.heap.size w5 w' → Calls Tryz.prog 7 #[.slice (some ⟨g, 0, none⟩) n gc, .int .i64 Wd, .int .i64 side] w' (CatOk w' (padC Wd side xs)) from fun side w' b => by rw [HN.out]; exact jpad_any _ xs Wd side w' (by rw [← HN.out]; exact (HOWN.out.below b).ints) (by have := HNB.out; omega))
  have P3 := Lib.hid (show ∀ (side : Int) w', Below w5.heap.size w5 w' → Calls Tryz.prog 9 #[.slice (some ⟨g, 0, none⟩) n gc, .int .i64 Wd, .int .i64 side, .slice bo m cb] w' (CatOk w' (fitC Wd side xs mk)) from fun side w' b => jfit_any _ _ _ xs mk Wd side w' (HOWN.out.below b) ((HU.out.below B5.out).below b).ints (by have := HNB.out; omega) (by have := HNB.out; omega))
  have P5 := Lib.hid (show ∀ w', Below w5.heap.size w5 w' → Calls Tryz.prog 11 #[.slice (some ⟨g, 0, none⟩) n gc, .int .i64 Wd] w' (Cloned 21 .i32 w' (cutC Wd xs)) from fun w' b => jcut_any _ _ xs Wd w' (HOWN.out.below b) (by have := HNB.out; omega))
  have HNW := Lib.hid (show IntKind.i64.wrap ((n : Int) + 1) = (n : Int) + 1 from by rw [IntKind.wrap_i64]; have := HNB.out; have := HN.out; omega)
  go_wp2
  go_loopw [8] (fun sv wr => ∃ s : Int, -1 ≤ s ∧ s ≤ 4 ∧ sv = .int .i64 s ∧ Below w5.heap.size w5 wr) (fun sv _ => (4 - intOf sv).toNat)
  case atStart => exact ⟨-1, by decide, by decide, rfl, Below.refl _ _⟩
  case round =>
    obtain ⟨s, hs1, hs2, rfl, hbw⟩ := hrel
    obtain ⟨wk, hwk⟩ : ∃ wk, wk = wr := ⟨_, rfl⟩
    subst hwk
    have HB := Lib.hid hbw
    clear hbw
    by_cases hlt : s ≤ 3
    · have hg : decide (s ≤ 3) = true := by simpa using hlt
      have hws : IntKind.i64.wrap (s + 1) = s + 1 := by rw [IntKind.wrap_i64]; omega
      have h1 := P1.out s wk HB.out
      go_wp2_with fail
      refine h1.mono ?_
      clear h1
      rintro e w6 ⟨v6, rfl, ho6, b6⟩
      have HO6 := Lib.hid (held_of_owns ho6)
      have B6 := Lib.hid (HB.out.trans (b6.mono HB.out.size))
      clear ho6 b6
      have h2 := R2.out s w6 (B5.out.trans (B6.out.mono B5.out.size))
      go_wp2_with fail
      refine h2.mono ?_
      clear h2
      rintro e w7 ⟨v7, rfl, ho7, b7⟩
      have h3 := same_any v6 v7 _ _ w7 (HO6.out.below b7) (held_of_owns ho7) (by rw [pad_len]; have := lack_le Wd xs; have := HNB.out; omega)
      rw [sameB_self] at h3
      have B7 := Lib.hid (B6.out.trans (b7.mono B6.out.size))
      clear ho7 b7 HO6
      go_wp2_with fail
      refine h3.mono ?_
      clear h3
      rintro e w8 ⟨rfl, b8⟩
      have B8 := Lib.hid (B7.out.trans (b8.mono B7.out.size))
      clear b8
      have h1 := P3.out s w8 B8.out
      go_wp2_with fail
      refine h1.mono ?_
      clear h1
      rintro e w9 ⟨v9, rfl, ho9, b9⟩
      have HO9 := Lib.hid (held_of_owns ho9)
      have B9 := Lib.hid (B8.out.trans (b9.mono B8.out.size))
      clear ho9 b9
      have h2 := R4.out s w9 (B5.out.trans (B9.out.mono B5.out.size))
      go_wp2_with fail
      refine h2.mono ?_
      clear h2
      rintro e wa ⟨va, rfl, hoa, ba⟩
      have h3 := same_any v9 va _ _ wa (HO9.out.below ba) (held_of_owns hoa) (by have := fit_len Wd s xs mk; have := HNB.out; omega)
      rw [sameB_self] at h3
      have BA := Lib.hid (B9.out.trans (ba.mono B9.out.size))
      clear hoa ba HO9
      go_wp2_with fail
      refine h3.mono ?_
      clear h3
      rintro e wb ⟨rfl, bb⟩
      have HF := Lib.hid (BA.out.trans (bb.mono BA.out.size))
      clear bb
      go_wp2
      go_roundw
      case rel => exact ⟨s + 1, by omega, by omega, rfl, HF.out⟩
      case measure => simp [intOf] <;> omega
    · have hg : decide (s ≤ 3) = false := by simpa using hlt
      have h1 := P5.out wk HB.out
      have hnw := HNW.out
      have c7 : ∀ w', Below w5.heap.size w5 w' → w'.cell? ⟨g, n, none⟩ = some (.int .i32 7) := fun w' b => (b.cell (p := ⟨g, n, none⟩) HG5.out).trans H7.out
      have HC7 := Lib.hid c7
      clear c7
      go_wp2_with fail
      refine h1.mono ?_
      clear h1
      rintro e w6 ⟨v6, rfl, ho6, b6⟩
      have HO6 := Lib.hid (held_of_owns ho6)
      have B6 := Lib.hid (HB.out.trans (b6.mono HB.out.size))
      clear ho6 b6
      have h2 := R6.out w6 (B5.out.trans (B6.out.mono B5.out.size))
      go_wp2_with fail
      refine h2.mono ?_
      clear h2
      rintro e w7 ⟨v7, rfl, ho7, b7⟩
      have h3 := same_any v6 v7 _ _ w7 (HO6.out.below b7) (held_of_owns ho7) (by have := cut_len Wd xs; have := HNB.out; omega)
      rw [sameB_self] at h3
      have B7 := Lib.hid (B6.out.trans (b7.mono B6.out.size))
      clear ho7 b7 HO6
      go_wp2_with fail
      refine h3.mono ?_
      clear h3
      rintro e w8 ⟨rfl, b8⟩
      have B8 := Lib.hid (B7.out.trans (b8.mono B7.out.size))
      have c7 := HC7.out w8 B8.out
      have hn1 : n < n + 1 := by omega
      have hn1i : (n : Int) < (n : Int) + 1 := by omega
      have HF := Lib.hid (B5.out.trans (B8.out.mono B5.out.size))
      clear b8
      go_wp2
      go_ret
      exact ⟨(ret_eq (by first | rfl | (simp <;> omega))), HF.out⟩
set_option maxRecDepth 100000 in
theorem walk {H : Type} {enc : TypeId × Value → H} (W : World) (v : Value) {base : Nat} {d : DataW H} {p : List MemPlace} (hv : Value.okWide Tryz.prog W .any base 22 v) (h : DataW.Trod enc Tryz.prog W 0 (fun _ => true) true 22 v d p) (Wd : Int) (hw : (Lit.int .i64 Wd).wf = true) (u : Value) {base2 : Nat} {d2 : DataW H} {p2 : List MemPlace} (hu : Value.okWide Tryz.prog W .any base2 22 u) (h2 : DataW.Trod enc Tryz.prog W 0 (fun _ => true) true 22 u d2 p2) : Calls Tryz.prog 3 #[v, .int .i64 Wd, u] W (Yes W) := by
  obtain ⟨xs, hx, hr⟩ := runes_arg hv h
  obtain ⟨mk, hy, hrm⟩ := runes_arg hu h2
  clear hv h hu h2
  by_cases hl : 60 < xs.length
  · obtain ⟨ao, ca, rfl⟩ := hx.len
    obtain ⟨bo, cb, rfl⟩ := hy.len
    clear hx hr hy hrm
    go_enter Tryz.func3, Tryz.ntmps3
    go_wp2_with fail
    refine (works58_any _).mono ?_
    rintro e w1 ⟨rfl, b1⟩
    go_wp2_with fail
    refine (works58_any _).mono ?_
    rintro e w2 ⟨rfl, b2⟩
    have B := b1.trans (b2.mono b1.size)
    go_wp2
    go_ret
    exact ⟨(ret_eq (by first | rfl | (simp <;> omega))), B⟩
  · by_cases hl2 : 30 < mk.length
    · obtain ⟨ao, ca, rfl⟩ := hx.len
      obtain ⟨bo, cb, rfl⟩ := hy.len
      have hd1 : decide ((60 : Int) < xs.length) = false := by rw [decide_eq_false_iff_not]; omega
      have hd2 : decide (60 < xs.length) = false := by rw [decide_eq_false_iff_not]; omega
      clear hx hr hy hrm
      go_enter Tryz.func3, Tryz.ntmps3
      go_wp2_with fail
      refine (works58_any _).mono ?_
      rintro e w1 ⟨rfl, b1⟩
      go_wp2_with fail
      refine (works58_any _).mono ?_
      rintro e w2 ⟨rfl, b2⟩
      have B := b1.trans (b2.mono b1.size)
      go_wp2
      go_ret
      exact ⟨(ret_eq (by first | rfl | (simp <;> omega))), B⟩
    · exact walkN W v u xs mk Wd hx hy hr hrm (by omega) (by omega)

set_option maxRecDepth 100000 in
theorem lifted (os : Os) (started : os.Started) (H : Type) (enc : TypeId × Value → H) :
    ReturnsInHanded {} Tryz.checked os 3 .any (Rows.justifyFitsSpec.pre6 enc Tryz.prog Tryz.f3 Rows.justifyFitsRow.domain false) (Rows.justifyFitsSpec.post enc Tryz.prog Tryz.f3 false true false false) := by
  refine law_frame_plain (C := Tryz.checked) (tb := 4) (by kernel_rfl) started (by kernel_rfl) Tryz.func3 (by kernel_rfl) (by kernel_rfl) Tryz.underlying4 rfl
    (by rw [Tryz.params3]; intro t ht; simp at ht; rcases ht with rfl | rfl | rfl <;> exact ⟨by kernel_rfl, of_decide_eq_true (by kernel_rfl)⟩)
    (by rw [Tryz.params3]; intro ds hd; match ds, hd with | [_, _, _], _ => rfl)
    (ChangeSpec.witness6 (enc := enc) (C := Tryz.checked) false ⟨#[], #[.slice none 0 0, .int .i64 0, .slice none 0 0], []⟩ 8 (by kernel_rfl) (by kernel_rfl) (by kernel_rfl) (by kernel_rfl)) ?_
  intro W base args ds before hval hA
  rw [Tryz.params3] at hA hval
  obtain ⟨v0, vs0, d0, ds0, p0, q0, hargs, rfl, rfl, h0, r0⟩ := trodAll_cons hA
  obtain ⟨v1, vs1, d1, ds1, p1, q1, rfl, rfl, rfl, h1, r1⟩ := trodAll_cons r0
  obtain ⟨v2, vs2, d2, ds2, p2, q2, rfl, rfl, rfl, h2, r2⟩ := trodAll_cons r1
  obtain ⟨rfl, rfl, rfl⟩ := trodAll_nil r2
  obtain rfl : args = #[v0, v1, v2] := by cases args; simp_all
  obtain ⟨x1, rfl, rfl, rfl, wx1⟩ := open_int Tryz.underlying3 (hval 1 3 v1 rfl rfl) h1
  exact walk W v0 (hval 0 22 v0 rfl rfl) h0 x1 wx1 v2 (hval 2 22 v2 rfl rfl) h2

theorem proved : Rows.JustifyFitsSaid :=
  OpenClaim.holds_of_wide 3 Tryz.f3 rfl rfl rfl rfl rfl rfl rfl ⟨rfl, rfl, rfl, rfl, rfl⟩ rfl rfl rfl rfl rfl (by kernel_rfl) Tryz.func3 (by kernel_rfl)
    (of_decide_eq_true (by kernel_rfl)) (by unfold Func.isWrapper; first | (rw [if_pos (by decide +kernel)]; kernel_rfl) | (rw [if_neg (by decide +kernel)]; exact ⟨rfl, rfl⟩))
    (fun os started H enc _ => lifted os started H enc)
#print axioms proved

end Go.Proofs.YtgkcobmbdpgceaaGreat.lawJustifyFits
