/- MeasureTells (21.1) answers true at every text, and turns nothing. No condition. -/
import Derived.Test.YtgkcobmbdpgceaaMeaI
import Derived.Test.YtgkcobmbdpgceaaMg8
import Derived.Test.YtgkcobmbdpgceaaMg7
import Derived.Test.YtgkcobmbdpgceaaMg2
import Derived.Test.YtgkcobmbdpgceaaMg1
import Derived.Test.YtgkcobmbdpgceaaRows
import Derived.ProofKit
namespace Go.Proofs.Ytgkcobmbdpgceaa.lawMeasureTells
open Go.ChangeShapes Go.WideShapes Go.ChangeAt Go.RowKit
set_option maxRecDepth 100000 in
set_option maxHeartbeats 3000000 in
theorem walkN (W : World) (v : Value) (xs : List Int) (hv : HeldE (intE .i32) (fun b => b < W.heap.size) W v xs) (hr : bounds32 xs) (hn : xs.length ≤ 200) : Calls Try.prog 3 #[v] W (Yes W) := by
  obtain ⟨ao, ca, rfl⟩ := hv.len
  have hd : decide ((200 : Int) < xs.length) = false := by rw [decide_eq_false_iff_not]; omega
  have hdn : decide (200 < xs.length) = false := by rw [decide_eq_false_iff_not]; omega
  have H1 := Lib.hid (show ∀ w', Below W.heap.size W w' → Calls Try.prog 13 #[.slice ao xs.length ca] w' (MadeItm w' (itemsC xs)) from fun w' b => mitems_any _ xs w' (hv.ints.below b) (by omega))
  have H2 := Lib.hid (show ∀ w', Below W.heap.size W w' → Calls Try.prog 15 #[.slice ao xs.length ca] w' (MadeItm w' (itemsC xs)) from fun w' b => ritems_any _ _ xs w' (hv.below b) (by omega) hr)
  have H3 := Lib.hid (show ∀ w', Below W.heap.size W w' → Calls Try.prog 16 #[.slice ao xs.length ca] w' (Gives w' (.int .i64 (colsC xs))) from fun w' b => mcols_any _ xs w' (hv.ints.below b) (by omega))
  have H4 := Lib.hid (show ∀ w', Below W.heap.size W w' → Calls Try.prog 17 #[.slice ao xs.length ca] w' (Gives w' (.int .i64 (colsC xs))) from fun w' b => rcols_any _ _ xs w' (hv.below b) (by omega) hr)
  have hil : (itemsC xs).length ≤ 1000000 := by
    have h1 := itemsL_len (cluA xs)
    have h2 := clA_len xs
    have h3 := clS_len xs
    unfold itemsC
    omega
  obtain ⟨n, hnn⟩ : ∃ n, n = xs.length := ⟨_, rfl⟩
  rw [← hnn] at H1 H2 H3 H4 hd hdn hn ⊢
  obtain ⟨L, hL⟩ : ∃ L, L = itemsC xs := ⟨_, rfl⟩
  rw [← hL] at H1 H2 hil
  obtain ⟨cc, hcc⟩ : ∃ cc, cc = colsC xs := ⟨_, rfl⟩
  rw [← hcc] at H3 H4
  clear hv hr hnn hL hcc
  go_enter Try.func3, Try.ntmps3
  go_wp2_with fail
  refine (works21_any _).mono ?_
  rintro e w1 ⟨rfl, b1⟩
  have B := Lib.hid b1
  clear b1
  have h1 := H1.out w1 B.out
  go_wp2_with fail
  refine h1.mono ?_
  clear h1 hd hdn
  rintro e w2 ⟨v2, rfl, ho2, b2⟩
  have O2 := Lib.hid ho2
  have HLO := Lib.hid (Nat.le_trans (Nat.le_refl _) b2.size)
  have B2 := Lib.hid (B.out.trans (b2.mono B.out.size))
  have HWW := Lib.hid B.out.size
  clear ho2 b2 B
  have h2 := H2.out w2 B2.out
  go_wp2_with fail
  refine h2.mono ?_
  clear h2
  rintro e w3 ⟨v3, rfl, ho3, b3⟩
  have O3 := Lib.hid ho3
  have Q2 := Lib.hid (O2.out.below b3)
  have B3 := Lib.hid (B2.out.trans (b3.mono B2.out.size))
  have HL3 := Lib.hid (Nat.le_trans HLO.out b3.size)
  clear ho3 b3 O2 B2 HLO
  have h4 := rsame21_self _ _ v2 v3 L w3 (Q2.out.held (Z := fun b => w1.heap.size ≤ b) (fun b h _ => h)) (O3.out.held (fun b h _ => h))
  obtain ⟨a2, c2, e2⟩ := (Q2.out.held (Z := fun b => w1.heap.size ≤ b) (fun b h _ => h)).len
  obtain ⟨a3, c3, e3⟩ := (O3.out.held (fun b h _ => h)).len
  have OI := Lib.hid (own_itm Q2.out)
  rw [e2] at h4 OI ⊢
  rw [e3] at h4 ⊢
  have HE2 := Lib.hid e2
  have hown : v2.ownBlock = (Value.slice a2 L.length c2).ownBlock := by rw [e2]
  clear e2 e3 O3
  obtain ⟨m, hm⟩ : ∃ m, m = L.length := ⟨_, rfl⟩
  have HM := Lib.hid hm
  go_wp2_with fail
  refine h4.mono ?_
  clear h4
  rintro e w4 ⟨rfl, b4⟩
  have B4 := Lib.hid (B3.out.trans (b4.mono B3.out.size))
  have U4 := Lib.hid (show Below w3.heap.size w3 w4 from b4)
  clear b4 B3
  have h5 := H3.out w4 B4.out
  go_wp2_with fail
  refine h5.mono ?_
  clear h5
  rintro e w5 ⟨rfl, b5⟩
  have B5 := Lib.hid (B4.out.trans (b5.mono B4.out.size))
  have U5 := Lib.hid (U4.out.trans (b5.mono U4.out.size))
  clear b5 B4 U4
  have h6 := H4.out w5 B5.out
  go_wp2_with fail
  refine h6.mono ?_
  clear h6
  rintro e w6 ⟨rfl, b6⟩
  have B6 := Lib.hid (B5.out.trans (b6.mono B5.out.size))
  have U6 := Lib.hid (U5.out.trans (b6.mono U5.out.size))
  have HL6 := Lib.hid (Nat.le_trans HL3.out U6.out.size)
  clear b6 B5 U5
  have hcc : (cc != cc) = false := by simp
  -- the texts, in the world ahead of the loops
  have HT := Lib.hid (show ∀ i, i < m → ∃ b tv, a2 = some ⟨b, 0, none⟩ ∧ m ≤ c2 ∧ b < w6.heap.size ∧ w6.cell? ⟨b, i * 2 + 1, none⟩ = some tv ∧ FrT (fun c => w1.heap.size ≤ c ∧ (Value.slice a2 L.length c2).ownBlock ≠ some c) w6 tv (L.getD i (0, [])).2 from fun i hi => by
    obtain ⟨b, cap, tv, e, hcap, hb, hc, hf⟩ := OI.out i (by rw [← HM.out]; exact hi)
    cases e
    exact ⟨b, tv, rfl, by rw [HM.out]; exact hcap, Nat.lt_of_lt_of_le hb U6.out.size, (U6.out.cell (p := ⟨b, i * 2 + 1, none⟩) hb).trans hc, itm_below hf U6.out⟩)
  obtain ⟨S, hS⟩ : ∃ S : Zone, S = fun c => w1.heap.size ≤ c ∧ (Value.slice a2 L.length c2).ownBlock ≠ some c := ⟨_, rfl⟩
  rw [← hS] at HT
  have HS := Lib.hid (show ∀ c, S c ↔ (w1.heap.size ≤ c ∧ (Value.slice a2 L.length c2).ownBlock ≠ some c) from fun c => by rw [hS])
  have HNB := Lib.hid (show ∀ b o, a2 = some ⟨b, o, none⟩ → ¬ S b from fun b o e h => by subst e; exact ((HS.out b).1 h).2 rfl)
  have hmn : m ≤ 1000000 := by omega
  rw [← hm] at *
  clear hS OI hown HE2 Q2 HL3 hm
  go_wp2
  go_loopw [4] (fun i wr => ∃ k : Nat, k ≤ m ∧ i = .int .i64 k ∧ Upd S w6 wr ∧ Soft w6 wr) (fun i _ => m - (intOf i).toNat)
  case atStart => exact ⟨0, Nat.zero_le _, rfl, Upd.refl _ _, Soft.refl _⟩
  case round =>
    obtain ⟨k, hk, rfl, hu, hs⟩ := hrel
    obtain ⟨wk, hwk⟩ : ∃ wk, wk = wr := ⟨_, rfl⟩
    subst hwk
    have HU := Lib.hid hu
    have HSO := Lib.hid hs
    clear hu hs
    by_cases hlt : k < m
    · obtain ⟨b, tv, e, hmc, hb, hc, hf⟩ := HT.out k hlt
      subst e
      obtain ⟨T, hT⟩ : ∃ T, T = (L.getD k (0, [])).2 := ⟨_, rfl⟩
      rw [← hT] at hf
      have HF := Lib.hid hf
      have hmx := hf.1.max
      obtain ⟨ta, tc, rfl⟩ := hf.1.len
      have hspot := hf.1.spots.2
      have HSP := Lib.hid hspot.2
      have htc := hspot.1
      have HC := Lib.hid hc
      have HB := Lib.hid hb
      obtain ⟨tl, htl⟩ : ∃ tl, tl = T.length := ⟨_, rfl⟩
      have HTL := Lib.hid htl
      rw [← htl] at HC htc hmx
      have hkc : k < c2 := by omega
      have hkm : (k : Int) < m := by omega
      clear hT hf hspot hc hb htl
      go_wp2
      go_loopw [5] (fun j w9 => ∃ q : Nat, q ≤ tl ∧ j = .int .i64 q ∧ Upd S w6 w9 ∧ Soft w6 w9) (fun j _ => tl - (intOf j).toNat)
      case atStart => exact ⟨0, Nat.zero_le _, rfl, HU.out, HSO.out⟩
      case round =>
        obtain ⟨q, hq, rfl, hu, hs⟩ := hrel
        obtain ⟨wq, hwq⟩ : ∃ wq, wq = wr := ⟨_, rfl⟩
        subst hwq
        have c1 := (hu.keep.cell (b := b) (o := k * 2 + 1) HB.out (HNB.out b 0 rfl)).trans HC.out
        by_cases hq2 : q < tl
        · obtain ⟨g, o, e, hg, hz, C, hC, hrep⟩ := HSP.out q (by rw [← HTL.out]; exact hq2)
          subst e
          obtain ⟨hz, hg2, hrow⟩ := HF.out.2 g rfl
          have hz0 : w6.cell? ⟨g, o + q, none⟩ = some (.int .i32 (T.getD q 0)) := by
            rw [show C = [.int .i32 (T.getD q 0)] from hrep] at hC
            have := hC 0 (by decide)
            simpa [intE] using this
          obtain ⟨y, hy⟩ := hs.ints .i32 ⟨g, o + q, none⟩ ⟨_, hz0⟩
          have hfr := hs.frozen (o := o + q) hrow
          have HSN := Lib.hid (hs.set hy (hs.rows g hrow) 0)
          have HUN := Lib.hid (hu.setCell (p := ⟨g, o + q, none⟩) (.inl hz) (.int .i32 0))
          have hqc : q < tc := by omega
          have hqm : (q : Int) < tl := by omega
          clear hu hs hC hrep hz hz0 hg hg2 hrow
          go_wp2
          go_roundw
          case rel => exact ⟨q + 1, by omega, by go_num, HUN.out, HSN.out⟩
          case measure => simp [intOf] <;> omega
        · obtain rfl : q = tl := by omega
          have HU := Lib.hid hu
          have HSO := Lib.hid hs
          clear hu hs
          go_wp2
          go_roundw
          case rel => exact ⟨k + 1, by omega, by go_num, HU.out, HSO.out⟩
          case measure => simp [intOf] <;> omega
    · obtain rfl : k = m := by omega
      have B := Lib.hid (B6.out.upd HU.out B6.out.size (fun b h => by have := ((HS.out b).1 h).1; have := HWW.out; omega))
      clear HT HNB HU HSO
      have h7 := H1.out wk B.out
      go_wp2_with fail
      refine h7.mono ?_
      clear h7
      rintro e w7 ⟨v7, rfl, ho7, b7⟩
      have O7 := Lib.hid ho7
      have B7 := Lib.hid (B.out.trans (b7.mono B.out.size))
      clear ho7 b7 B
      have h8 := H2.out w7 B7.out
      go_wp2_with fail
      refine h8.mono ?_
      clear h8
      rintro e w8 ⟨v8, rfl, ho8, b8⟩
      have h9 := rsame21_self _ _ v7 v8 L w8 ((O7.out.below b8).held (Z := fun b => wk.heap.size ≤ b) (fun b h _ => h)) (ho8.held (fun b h _ => h))
      have B8 := Lib.hid (B7.out.trans (b8.mono B7.out.size))
      obtain ⟨a7, c7, e7⟩ := (O7.out.held (fun b h _ => h)).len
      obtain ⟨a8, c8, e8⟩ := (ho8.held (fun b h _ => h)).len
      rw [e7] at h9 ⊢
      rw [e8] at h9 ⊢
      clear e7 e8 O7 ho8 b8 B7
      go_wp2_with fail
      refine h9.mono ?_
      clear h9
      rintro e w9 ⟨rfl, b9⟩
      have HE := Lib.hid (B8.out.trans (b9.mono B8.out.size))
      clear b9
      go_wp2
      go_ret
      exact ⟨(ret_eq (by first | rfl | (simp <;> omega))), HE.out⟩
set_option maxRecDepth 100000 in
theorem walk {H : Type} {enc : TypeId × Value → H} (W : World) (v : Value) {base : Nat} {d : DataW H} {p : List MemPlace} (hv : Value.okWide Try.prog W .any base 22 v) (h : DataW.Trod enc Try.prog W 0 (fun _ => true) true 22 v d p) : Calls Try.prog 3 #[v] W (Yes W) := by
  obtain ⟨xs, hx, hr⟩ := runes_arg hv h
  by_cases hl : 200 < xs.length
  · obtain ⟨ao, ca, rfl⟩ := hx.len
    clear hv h hx hr
    go_enter Try.func3, Try.ntmps3
    go_wp2_with fail
    refine (works21_any _).mono ?_
    rintro e w1 ⟨rfl, b1⟩
    go_wp2_with fail
    refine (works21_any _).mono ?_
    rintro e w2 ⟨rfl, b2⟩
    have B := b1.trans (b2.mono b1.size)
    go_wp2
    go_ret
    exact ⟨(ret_eq (by first | rfl | (simp <;> omega))), B⟩
  · exact walkN W v xs hx hr (by omega)

set_option maxRecDepth 100000 in
theorem lifted (os : Os) (started : os.Started) (H : Type) (enc : TypeId × Value → H) :
    ReturnsInHanded {} Try.checked os 3 .any (Rows.measureTellsSpec.pre6 enc Try.prog Try.f3 Rows.measureTellsRow.domain false) (Rows.measureTellsSpec.post enc Try.prog Try.f3 false true false false) := by
  refine law_frame_plain (C := Try.checked) (tb := 4) (by kernel_rfl) started (by kernel_rfl) Try.func3 (by kernel_rfl) (by kernel_rfl) Try.underlying4 rfl
    (by rw [Try.params3]; intro t ht; simp at ht; subst ht <;> exact ⟨by kernel_rfl, of_decide_eq_true (by kernel_rfl)⟩)
    (by rw [Try.params3]; intro ds hd; match ds, hd with | [_], _ => rfl)
    (ChangeSpec.witness6 (enc := enc) (C := Try.checked) false ⟨#[], #[.slice none 0 0], []⟩ 8 (by kernel_rfl) (by kernel_rfl) (by kernel_rfl) (by kernel_rfl)) ?_
  intro W base args ds before hval hA
  rw [Try.params3] at hA hval
  obtain ⟨v0, vs0, d0, ds0, p0, q0, hargs, rfl, rfl, h0, r0⟩ := trodAll_cons hA
  obtain ⟨rfl, rfl, rfl⟩ := trodAll_nil r0
  obtain rfl : args = #[v0] := by cases args; simp_all

  exact walk W v0 (hval 0 22 v0 rfl rfl) h0

theorem proved : Rows.MeasureTellsSaid :=
  OpenClaim.holds_of_wide 3 Try.f3 rfl rfl rfl rfl rfl rfl rfl ⟨rfl, rfl, rfl, rfl, rfl⟩ rfl rfl rfl rfl rfl (by kernel_rfl) Try.func3 (by kernel_rfl)
    (of_decide_eq_true (by kernel_rfl)) (by unfold Func.isWrapper; first | (rw [if_pos (by decide +kernel)]; kernel_rfl) | (rw [if_neg (by decide +kernel)]; exact ⟨rfl, rfl⟩))
    (fun os started H enc _ => lifted os started H enc)
#print axioms proved

end Go.Proofs.Ytgkcobmbdpgceaa.lawMeasureTells
