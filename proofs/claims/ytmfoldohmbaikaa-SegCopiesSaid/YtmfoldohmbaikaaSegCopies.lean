/- SegCopies (15.1, 15.2) answers true at any two rows of properties, and turns nothing. No conditions. -/
import Derived.Test.YtmfoldohmbaikaaSegBn
import Derived.Test.YtmfoldohmbaikaaSegW
import Derived.Test.YtmfoldohmbaikaaFrame
import Derived.Test.YtmfoldohmbaikaaRows
import Derived.Test.YtmfoldohmbaikaaMix
import Derived.ProofKit
import Derived.Lib.SmallJoins
import Derived.Deep.RegionWith
namespace Go.Proofs.Ytmfoldohmbaikaa.lawSegCopies
open Go.ChangeShapes Go.WideShapes Go.ChangeAt Go.RowKit
theorem below_drew {B : Nat} {w w' : World} (h : Below B w w') : Below B w w'.drew := ⟨h.os, h.tape, h.output, h.size, h.block⟩
theorem at_but {w w' : World} {g g' : Nat} {xs : List Pr} {k : Nat} (h : At w g xs k) (hb : But g' w.heap.size w w') (hn : g ≠ g') : At w' g xs k := Has.but h hb h.lt hn
theorem st_same {xs ys : List Pr} (k : Nat) (h : ∀ j, j < k → xs.getD j Pr.none = ys.getD j Pr.none) : lSt xs k = lSt ys k ∧ cSt xs k = cSt ys k ∧ pSt xs k = pSt ys k ∧ oSt xs k = oSt ys k := by
  induction k with
  | zero => exact ⟨rfl, rfl, rfl, rfl⟩
  | succ k ih =>
    obtain ⟨_, i2, i3, i4⟩ := ih fun j hj => h j (by omega)
    have hk := h k (by omega)
    refine ⟨?_, ?_, ?_, ?_⟩
    · show (xs.getD k Pr.none).br = (ys.getD k Pr.none).br
      rw [hk]
    · show conjI (cSt xs k) (xs.getD k Pr.none).cv = conjI (cSt ys k) (ys.getD k Pr.none).cv
      rw [hk, i2]
    · show picI (pSt xs k) (xs.getD k Pr.none).br (xs.getD k Pr.none).pc = picI (pSt ys k) (ys.getD k Pr.none).br (ys.getD k Pr.none).pc
      rw [hk, i3]
    · show ((xs.getD k Pr.none).br == 6 && !oSt xs k) = ((ys.getD k Pr.none).br == 6 && !oSt ys k)
      rw [hk, i4]
theorem at_both {w : World} {g : Nat} {xs ys : List Pr} (h : At w g xs xs.length) : At w g (xs ++ ys) (xs.length + 0) := by
  obtain ⟨h1, h2, h3, h4⟩ := st_same (xs := xs) (ys := xs ++ ys) xs.length (fun j hj => by simp [List.getD, List.getElem?_append, hj])
  unfold At at *
  rw [h1, h2, h3, h4] at h
  exact h
theorem getD_both {xs ys : List Pr} {m : Nat} : (xs ++ ys).getD (xs.length + m) Pr.none = ys.getD m Pr.none := by
  have h : ¬ xs.length + m < xs.length := by omega
  simp [List.getD, List.getElem?_append, h]
theorem two_new (w : World) : ∃ W, W = (w.alloc (.cells #[.bool false, .int .i64 0, .int .u8 0, .int .u8 0, .bool false] 70)).alloc (.cells #[.bool false, .int .i64 0, .int .u8 0, .int .u8 0, .bool false] 70) ∧
    SegAt W w.heap.size false 0 0 0 false ∧ SegAt W (w.heap.size + 1) false 0 0 0 false ∧ Below w.heap.size w W :=
  ⟨_, rfl, (Has.new w _ _).alloc _, has_at (by simp), ((Below.refl _ _).alloc (Nat.le_refl _) _).alloc (by simp) _⟩
theorem two_of (w : World) (a b c d e : Value) : ∃ W, W = (w.alloc (.cells #[a, b, c, d, e] 70)).alloc (.cells #[a, b, c, d, e] 70) ∧
    Has W w.heap.size [a, b, c, d, e] 70 ∧ Has W (w.heap.size + 1) [a, b, c, d, e] 70 ∧ Below w.heap.size w W :=
  ⟨_, rfl, (Has.new w _ _).alloc _, has_at (by simp), ((Below.refl _ _).alloc (Nat.le_refl _) _).alloc (by simp) _⟩
set_option maxRecDepth 100000 in
theorem reset_any (g : Nat) (tl : Bool) (la cj pi : Int) (od : Bool) (w : World) (hs : SegAt w g tl la cj pi od) : Calls Try.prog 46 #[.pointer (some ⟨g, 0, none⟩)] w fun e w' => e = .returned (.tuple #[]) ∧ SegAt w' g false 0 0 0 false ∧ But g w.heap.size w w' := by
  have k0 := hs.cell 0 _ rfl
  have k1 := hs.cell 1 _ rfl
  have k2 := hs.cell 2 _ rfl
  have k3 := hs.cell 3 _ rfl
  have k4 := hs.cell 4 _ rfl
  have f0 := hs.free 0
  have f1 := hs.free 1
  have f2 := hs.free 2
  have f3 := hs.free 3
  have f4 := hs.free 4
  have hg := hs.lt
  have hz := seg_five w g (.bool false) (.int .i64 0) (.int .u8 0) (.int .u8 0) (.bool false) hs
  have HZ := Lib.hid hz
  clear hz hs
  go_enter Try.func46, Try.ntmps46
  go_wp2
  go_end0
  exact ⟨rfl, HZ.out.1, HZ.out.2⟩
set_option maxRecDepth 100000 in
set_option maxHeartbeats 4000000 in
theorem walkH (w : World) (v u : Value) (as_ bs : List Pr) (ha : HeldP w v as_) (hb : HeldP w u bs) : Calls Try.prog 12 #[v, u] w (Yes w) := by
  obtain ⟨ao, ca, rfl, _⟩ := id ha
  obtain ⟨bo, cb, rfl, _⟩ := id hb
  have HA := Lib.hid ha
  have HB := Lib.hid hb
  by_cases hl : 300 < as_.length
  · clear ha hb
    go_enter Try.func12, Try.ntmps12
    go_wp2_with fail
    refine (works15_any _).mono ?_
    rintro e w1 ⟨rfl, b1⟩
    go_wp2_with fail
    refine (works15_any _).mono ?_
    rintro e w2 ⟨rfl, b2⟩
    go_wp2
    go_ret
    exact ⟨(ret_eq (by first | rfl | (simp <;> omega))), b1.trans (b2.mono b1.size)⟩
  by_cases hl2 : 300 < bs.length
  · clear ha hb
    go_enter Try.func12, Try.ntmps12
    go_wp2_with fail
    refine (works15_any _).mono ?_
    rintro e w1 ⟨rfl, b1⟩
    go_wp2_with fail
    refine (works15_any _).mono ?_
    rintro e w2 ⟨rfl, b2⟩
    go_wp2
    go_ret
    exact ⟨(ret_eq (by first | rfl | (simp <;> omega))), b1.trans (b2.mono b1.size)⟩
  obtain ⟨_, hca⟩ := ha.at
  obtain ⟨_, hcb⟩ := hb.at
  have HCA := Lib.hid hca
  have HCB := Lib.hid hcb
  clear hca hcb ha hb
  go_enter Try.func12, Try.ntmps12
  go_wp2_with fail
  refine (works15_any _).mono ?_
  rintro e w1 ⟨rfl, b1⟩
  go_wp2
  obtain ⟨W, hW, hs, hn, hw⟩ := two_new w1
  rw [← hW]
  obtain ⟨gn, hgn⟩ : ∃ g, g = w1.heap.size + 1 := ⟨_, rfl⟩
  obtain ⟨gs, hgs⟩ : ∃ g, g = w1.heap.size := ⟨_, rfl⟩
  rw [← hgn, ← hgs]
  rw [← hgn] at hn
  rw [← hgs] at hs
  have hw0 := b1.trans (hw.mono b1.size)
  have hsz := b1.size
  have hgs1 : w.heap.size ≤ gs := by omega
  have hgn1 : w.heap.size ≤ gn := by omega
  have hgsn : gn ≠ gs := by omega
  have HN := Lib.hid hn
  have HGS := Lib.hid hgs
  have HGN := Lib.hid hgn
  clear hgs hgn hW hn
  go_loopw [7] (fun i wr => ∃ k : Nat, k ≤ as_.length ∧ i = .int .i64 k ∧ At wr gs as_ k ∧ Below w.heap.size w wr ∧ But gs W.heap.size W wr) (fun i _ => as_.length - (intOf i).toNat)
  case atStart => exact ⟨0, Nat.zero_le _, rfl, hs, hw0, But.refl _ _ _⟩
  case round =>
    obtain ⟨k, hk, rfl, hat, hbw, hbt⟩ := hrel
    have HAT := Lib.hid hat
    clear hat
    by_cases hlt : k < as_.length
    · obtain ⟨b, off, rfl, hb, h0, h1, h2, h3⟩ := HCA.out k hlt
      have h0 := (hbw.cell (p := ⟨b, off + k * 4, none⟩) hb).trans h0
      have h1 := (hbw.cell (p := ⟨b, off + k * 4 + 1, none⟩) hb).trans h1
      have h2 := (hbw.cell (p := ⟨b, off + k * 4 + 2, none⟩) hb).trans h2
      have h3 := (hbw.cell (p := ⟨b, off + k * 4 + 3, none⟩) hb).trans h3
      have hst := step_at wr gs as_ k HAT.out
      obtain ⟨q, hq⟩ : ∃ q, q = as_.getD k Pr.none := ⟨_, rfl⟩
      rw [← hq] at h0 h1 h2 h3 hst
      have HST := Lib.hid hst
      clear hq hst
      go_wp2_with fail
      refine HST.out.mono ?_
      rintro e w2 ⟨rfl, hat2, hbut⟩
      have hb2 : Below w.heap.size w w2 := hbw.trans (hbut.below hbw.size (by omega))
      have hbt2 := hbt.trans (hbut.mono hbt.size)
      generalize jR as_ k = j
      clear h0 h1 h2 h3
      go_wp2
      go_roundw
      case rel => exact ⟨k + 1, by omega, by go_num, hat2, hb2, hbt2⟩
      case measure => simp [intOf] <;> omega
    · obtain rfl : k = as_.length := by omega
      have hsa := HAT.out
      have k0 := hsa.cell 0 _ rfl
      have k1 := hsa.cell 1 _ rfl
      have k2 := hsa.cell 2 _ rfl
      have k3 := hsa.cell 3 _ rfl
      have k4 := hsa.cell 4 _ rfl
      have hlt2 := hsa.lt
      have HN1 := Lib.hid (HN.out.but hbt HN.out.lt hgsn)
      clear hsa
      go_wp2_with fail
      obtain ⟨W3, hW3, ht, hu, hw3⟩ := two_of wr (.bool (decide (0 < as_.length))) (.int .i64 (lSt as_ as_.length)) (.int .u8 (cSt as_ as_.length)) (.int .u8 (pSt as_ as_.length)) (.bool (oSt as_ as_.length))
      rw [← hW3]
      obtain ⟨gu, hgu⟩ : ∃ g, g = wr.heap.size + 1 := ⟨_, rfl⟩
      obtain ⟨gt, hgt⟩ : ∃ g, g = wr.heap.size := ⟨_, rfl⟩
      rw [← hgu]
      rw [← hgu] at hu
      rw [← hgt] at ht hlt2
      have hgnlt : gn < gt := by rw [hgt]; exact HN1.out.lt
      have hgtu : gt < gu := by omega
      have HS3 := Lib.hid (show At W3 gs (as_ ++ bs) (as_.length + 0) from at_both (Has.below HAT.out hw3 (by omega)))
      have HT3 := Lib.hid (show At W3 gt (as_ ++ bs) (as_.length + 0) from at_both ht)
      have HN3 := Lib.hid (show At W3 gn bs 0 from HN1.out.below hw3 (by omega))
      have hb3 := hbw.trans (hw3.mono hbw.size)
      have hsz3 := hbw.size
      have HGT := Lib.hid hgt
      clear hW3 ht hw3 k0 k1 k2 k3 k4 hgu
      refine (reset_any gu _ _ _ _ _ _ hu).mono ?_
      rintro e w4 ⟨rfl, hu4, hbut4⟩
      have hb4 := hb3.trans (hbut4.below hb3.size (by omega))
      have HS4 := Lib.hid (at_but HS3.out hbut4 (by omega))
      have HT4 := Lib.hid (at_but HT3.out hbut4 (by omega))
      have HN4 := Lib.hid (at_but HN3.out hbut4 (by omega))
      have HU4 := Lib.hid (show At w4 gu bs 0 from hu4)
      have n1 : gt ≠ gs := by omega
      have n2 : gu ≠ gs := by omega
      have n3 : gn ≠ gs := hgsn
      have n4 : gu ≠ gt := by omega
      have n5 : gn ≠ gt := by omega
      have n6 : gn ≠ gu := by omega
      have hgt1 : w.heap.size ≤ gt := by omega
      have hgu1 : w.heap.size ≤ gu := by omega
      rw [← HGT.out]
      clear hu hu4 hbut4 hb3 HS3 HT3 HN3 HAT HN1 hbt hbw hs hw hw0 HN hlt2 hgt hgtu hgnlt hsz3 HGT HGS HGN
      go_wp2
      go_loopw [10] (fun i wr => ∃ m : Nat, m ≤ bs.length ∧ i = .int .i64 m ∧ At wr gs (as_ ++ bs) (as_.length + m) ∧ At wr gt (as_ ++ bs) (as_.length + m) ∧ At wr gu bs m ∧ At wr gn bs m ∧ Below w.heap.size w wr) (fun i _ => bs.length - (intOf i).toNat)
      case atStart => exact ⟨0, Nat.zero_le _, rfl, HS4.out, HT4.out, HU4.out, HN4.out, hb4⟩
      case round =>
        obtain ⟨m, hm, rfl, has, hat, hau, han, hbw⟩ := hrel
        have HAS := Lib.hid has
        have HAT := Lib.hid hat
        have HAU := Lib.hid hau
        have HAN := Lib.hid han
        clear has hat hau han HS4 HT4 HU4 HN4 hb4
        by_cases hlt : m < bs.length
        · obtain ⟨b, off, rfl, hb, h0, h1, h2, h3⟩ := HCB.out m hlt
          have HX := Lib.hid (And.intro h0 (And.intro h1 (And.intro h2 h3)))
          have h0 := (hbw.cell (p := ⟨b, off + m * 4, none⟩) hb).trans h0
          have h1 := (hbw.cell (p := ⟨b, off + m * 4 + 1, none⟩) hb).trans h1
          have h2 := (hbw.cell (p := ⟨b, off + m * 4 + 2, none⟩) hb).trans h2
          have h3 := (hbw.cell (p := ⟨b, off + m * 4 + 3, none⟩) hb).trans h3
          have hs1 := fun w' h => step_at w' gs (as_ ++ bs) (as_.length + m) h
          have hs2 := fun w' h => step_at w' gt (as_ ++ bs) (as_.length + m) h
          have hs3 := fun w' h => step_at w' gu bs m h
          have hs4 := fun w' h => step_at w' gn bs m h
          rw [getD_both] at hs1 hs2
          obtain ⟨q, hq⟩ : ∃ q, q = bs.getD m Pr.none := ⟨_, rfl⟩
          rw [← hq] at h0 h1 h2 h3 hs1 hs2 hs3 hs4 HX
          have H1 := Lib.hid hs1
          have H2 := Lib.hid hs2
          have H3 := Lib.hid hs3
          have H4 := Lib.hid hs4
          clear hq hs1 hs2 hs3 hs4
          go_wp2_with fail
          refine (H1.out _ HAS.out).mono ?_
          rintro e w1' ⟨rfl, has1, hbut1⟩
          have hb1 := hbw.trans (hbut1.below hbw.size hgs1)
          have HS := Lib.hid has1
          have HT := Lib.hid (p := At w1'.drew gt (as_ ++ bs) (as_.length + m)) (show At w1' gt (as_ ++ bs) (as_.length + m) from at_but HAT.out hbut1 n1)
          have HU := Lib.hid (p := At w1'.drew gu bs m) (show At w1' gu bs m from at_but HAU.out hbut1 n2)
          have HN := Lib.hid (p := At w1'.drew gn bs m) (show At w1' gn bs m from at_but HAN.out hbut1 n3)
          have hbd := below_drew hb1
          clear h0 h1 h2 h3 has1 hbut1 HAS HAT HAU HAN
          have h0 := (hb1.cell (p := ⟨b, off + m * 4, none⟩) hb).trans HX.out.1
          have h1 := (hb1.cell (p := ⟨b, off + m * 4 + 1, none⟩) hb).trans HX.out.2.1
          have h2 := (hb1.cell (p := ⟨b, off + m * 4 + 2, none⟩) hb).trans HX.out.2.2.1
          have h3 := (hb1.cell (p := ⟨b, off + m * 4 + 3, none⟩) hb).trans HX.out.2.2.2
          obtain ⟨CL, hCL⟩ : ∃ CL : Array Bool → World → Prop, CL = fun L w' => At w' gs (as_ ++ bs) (as_.length + m + 1) ∧ At w' gt (as_ ++ bs) (as_.length + m + Mix.one L 4) ∧ At w' gu bs (m + Mix.one L 12) ∧ At w' gn bs (m + Mix.one L 17) ∧ Below w.heap.size w w' := ⟨_, rfl⟩
          have hinv : ∀ i L w', i ≠ 4 → i ≠ 12 → i ≠ 17 → CL L w' → CL (L.setIfInBounds i true) w' := by
            intro i L w' h4 h12 h17 h
            rw [hCL] at h ⊢
            simp only [Mix.one_ne h4, Mix.one_ne h12, Mix.one_ne h17]
            exact h
          have hC0 : CL (Array.replicate 20 false) { w1' with drawn := w1'.drawn + 1 } := by
            rw [hCL]
            simp only [Mix.one_none]
            exact ⟨HS.out, HT.out, HU.out, HN.out, hbd⟩
          have hC4 : ∀ L w', L.size = 20 → Mix.one L 4 = 0 → CL L w' → Calls Try.prog 45 #[.pointer (some ⟨gt, 0, none⟩), .agg #[.int .i64 q.br, .bool q.pc, .int .i64 q.cv, .int .i64 q.ea]] w' fun e w'' => e = .returned (.bool (jR (as_ ++ bs) (as_.length + m))) ∧ CL (L.setIfInBounds 4 true) w'' := by
            intro L w' hs h1 h
            rw [hCL] at h ⊢
            obtain ⟨a1, a2, a3, a4, a5⟩ := h
            rw [h1] at a2
            refine (H2.out _ a2).mono ?_
            rintro e w2 ⟨rfl, hat2, hbut2⟩
            simp only [Mix.one_ne (show 4 ≠ 12 by decide), Mix.one_ne (show 4 ≠ 17 by decide), Mix.one_set (show 4 < L.size by omega)]
            exact ⟨trivial, at_but a1 hbut2 (Ne.symm n1), hat2, at_but a3 hbut2 n4, at_but a4 hbut2 n5, a5.trans (hbut2.below a5.size hgt1)⟩
          have hC12 : ∀ L w', L.size = 20 → Mix.one L 12 = 0 → CL L w' → Calls Try.prog 45 #[.pointer (some ⟨gu, 0, none⟩), .agg #[.int .i64 q.br, .bool q.pc, .int .i64 q.cv, .int .i64 q.ea]] w' fun e w'' => e = .returned (.bool (jR bs m)) ∧ CL (L.setIfInBounds 12 true) w'' := by
            intro L w' hs h1 h
            rw [hCL] at h ⊢
            obtain ⟨a1, a2, a3, a4, a5⟩ := h
            rw [h1] at a3
            refine (H3.out _ a3).mono ?_
            rintro e w2 ⟨rfl, hat2, hbut2⟩
            simp only [Mix.one_ne (show 12 ≠ 4 by decide), Mix.one_ne (show 12 ≠ 17 by decide), Mix.one_set (show 12 < L.size by omega)]
            exact ⟨trivial, at_but a1 hbut2 (Ne.symm n2), at_but a2 hbut2 (Ne.symm n4), hat2, at_but a4 hbut2 n6, a5.trans (hbut2.below a5.size hgu1)⟩
          have hC17 : ∀ L w', L.size = 20 → Mix.one L 17 = 0 → CL L w' → Calls Try.prog 45 #[.pointer (some ⟨gn, 0, none⟩), .agg #[.int .i64 q.br, .bool q.pc, .int .i64 q.cv, .int .i64 q.ea]] w' fun e w'' => e = .returned (.bool (jR bs m)) ∧ CL (L.setIfInBounds 17 true) w'' := by
            intro L w' hs h1 h
            rw [hCL] at h ⊢
            obtain ⟨a1, a2, a3, a4, a5⟩ := h
            rw [h1] at a4
            refine (H4.out _ a4).mono ?_
            rintro e w2 ⟨rfl, hat2, hbut2⟩
            simp only [Mix.one_ne (show 17 ≠ 4 by decide), Mix.one_ne (show 17 ≠ 12 by decide), Mix.one_set (show 17 < L.size by omega)]
            exact ⟨trivial, at_but a1 hbut2 (Ne.symm n3), at_but a2 hbut2 (Ne.symm n5), at_but a3 hbut2 (Ne.symm n6), hat2, a5.trans (hbut2.below a5.size hgn1)⟩
          have hCe : ∀ w', CL (Array.replicate 20 true) w' → At w' gs (as_ ++ bs) (as_.length + m + 1) ∧ At w' gt (as_ ++ bs) (as_.length + m + 1) ∧ At w' gu bs (m + 1) ∧ At w' gn bs (m + 1) ∧ Below w.heap.size w w' := by
            intro w' h
            rw [hCL] at h
            simp only [Mix.one_all (show 4 < 20 by decide), Mix.one_all (show 12 < 20 by decide), Mix.one_all (show 17 < 20 by decide)] at h
            exact h
          have hCb0 : ∀ L w', CL L w' → Below w.heap.size w w' := fun L w' h => by
            rw [hCL] at h
            exact h.2.2.2.2
          have hCb : ∀ s : Mix.Spot CL, Below w.heap.size w s.wld := fun s => hCb0 s.listed s.to s.ok
          haveI : Nonempty (Mix.Spot CL) := ⟨⟨_, _, hC0⟩⟩
          have f0 : ∀ s : Mix.Spot CL, s.wld.cell? ⟨b, off + m * 4, none⟩ = some (.int .i64 q.br) := fun s => ((hCb s).cell (p := ⟨b, off + m * 4, none⟩) hb).trans HX.out.1
          have f1 : ∀ s : Mix.Spot CL, s.wld.cell? ⟨b, off + m * 4 + 1, none⟩ = some (.bool q.pc) := fun s => ((hCb s).cell (p := ⟨b, off + m * 4 + 1, none⟩) hb).trans HX.out.2.1
          have f2 : ∀ s : Mix.Spot CL, s.wld.cell? ⟨b, off + m * 4 + 2, none⟩ = some (.int .i64 q.cv) := fun s => ((hCb s).cell (p := ⟨b, off + m * 4 + 2, none⟩) hb).trans HX.out.2.2.1
          have f3 : ∀ s : Mix.Spot CL, s.wld.cell? ⟨b, off + m * 4 + 3, none⟩ = some (.int .i64 q.ea) := fun s => ((hCb s).cell (p := ⟨b, off + m * 4 + 3, none⟩) hb).trans HX.out.2.2.2
          clear h0 h1 h2 h3 hCL hbd hCb hCb0
          have HC0 := Lib.hid hC0
          have HINV := Lib.hid hinv
          have HC4 := Lib.hid hC4
          have HC12 := Lib.hid hC12
          have HC17 := Lib.hid hC17
          have HCE := Lib.hid hCe
          clear hC0 hinv hC4 hC12 hC17 hCe
          obtain ⟨j, hj⟩ : ∃ j, j = jR (as_ ++ bs) (as_.length + m) := ⟨_, rfl⟩
          obtain ⟨y, hy⟩ : ∃ j, j = jR bs m := ⟨_, rfl⟩
          rw [← hj] at HC4 ⊢
          rw [← hy] at HC12 HC17
          clear hj hy
          go_wp2_with fail
          refine Mix.region CL (by kernel_rfl) (by kernel_rfl) (by kernel_rfl) HC0.out ?_
          refine Mix.walk_run 4 (by kernel_rfl) (fun i L w' _ _ => HINV.out i L w' (by omega) (by omega) (by omega)) ?_
          simp only [List.take_succ_cons, List.take_zero, List.drop_succ_cons, List.drop_zero]
          repeat (go_big_quiet_step (fail))
          refine wpQuiet_nil ?_
          refine Mix.walk_do (.bool j) rfl (fun L w' hs hr hC => ?_) ?_
          · have HH := HC4.out L w' (by simpa using hs) (Mix.one_ready hr) hC
            clear HC4 HC12 HC17 f0 f1 f2 f3
            unfold Mix.upon
            go_simp
          simp only [Mix.put_lit, List.set_cons_succ, List.set_cons_zero]
          refine Mix.walk_run 7 (by kernel_rfl) (fun i L w' _ _ => HINV.out i L w' (by omega) (by omega) (by omega)) ?_
          simp only [List.take_succ_cons, List.take_zero, List.drop_succ_cons, List.drop_zero]
          repeat (go_big_quiet_step (fail))
          refine wpQuiet_nil ?_
          refine Mix.walk_do (.bool y) rfl (fun L w' hs hr hC => ?_) ?_
          · have HH := HC12.out L w' (by simpa using hs) (Mix.one_ready hr) hC
            clear HC4 HC12 HC17 f0 f1 f2 f3
            unfold Mix.upon
            go_simp
          simp only [Mix.put_lit, List.set_cons_succ, List.set_cons_zero]
          refine Mix.walk_run 4 (by kernel_rfl) (fun i L w' _ _ => HINV.out i L w' (by omega) (by omega) (by omega)) ?_
          simp only [List.take_succ_cons, List.take_zero, List.drop_succ_cons, List.drop_zero]
          repeat (go_big_quiet_step (fail))
          refine wpQuiet_nil ?_
          refine Mix.walk_do (.bool y) rfl (fun L w' hs hr hC => ?_) ?_
          · have HH := HC17.out L w' (by simpa using hs) (Mix.one_ready hr) hC
            clear HC4 HC12 HC17 f0 f1 f2 f3
            unfold Mix.upon
            go_simp
          simp only [Mix.put_lit, List.set_cons_succ, List.set_cons_zero]
          refine Mix.walk_run 2 (by kernel_rfl) (fun i L w' _ _ => HINV.out i L w' (by omega) (by omega) (by omega)) ?_
          simp only [List.take_succ_cons, List.take_zero, List.drop_succ_cons, List.drop_zero]
          repeat (go_big_quiet_step (fail))
          refine wpQuiet_nil ?_
          refine Mix.walk_nil ?_
          intro w9 hC9
          obtain ⟨hs9, ht9, hu9, hn9, hb9⟩ := HCE.out w9 hC9
          clear hC9 f0 f1 f2 f3 HC4 HC12 HC17 HCE HINV HC0
          go_wp2
          go_roundw
          case rel => exact ⟨m + 1, by omega, by go_num, hs9, ht9, hu9, hn9, hb9⟩
          case measure => simp [intOf] <;> omega
        · go_wp2
          go_ret
          exact ⟨(ret_eq (by first | rfl | (simp <;> omega))), hbw⟩
set_option maxRecDepth 100000 in
theorem walk {H : Type} {enc : TypeId × Value → H} (W : World) {base base' : Nat} (v : Value) {d : DataW H} {p : List MemPlace} (hv : Value.okWide Try.prog W .any base 67 v) (h : DataW.Trod enc Try.prog W 0 (fun _ => true) true 67 v d p)
    (u : Value) {d' : DataW H} {p' : List MemPlace} (hv' : Value.okWide Try.prog W .any base' 67 u) (h' : DataW.Trod enc Try.prog W 0 (fun _ => true) true 67 u d' p') : Calls Try.prog 12 #[v, u] W (Yes W) := by
  obtain ⟨xs, hh⟩ := open_props hv h
  obtain ⟨ys, hh'⟩ := open_props hv' h'
  exact walkH W v u xs ys hh hh'

set_option maxRecDepth 100000 in
theorem lifted (os : Os) (started : os.Started) (H : Type) (enc : TypeId × Value → H) :
    ReturnsInHanded {} Try.checked os 12 .any (Rows.segCopiesSpec.pre6 enc Try.prog Try.f12 Rows.segCopiesRow.domain false) (Rows.segCopiesSpec.post enc Try.prog Try.f12 false true false false) := by
  refine law_frame_plain (C := Try.checked) (tb := 4) (by kernel_rfl) started (by kernel_rfl) Try.func12 (by kernel_rfl) (by kernel_rfl) Try.underlying4 rfl
    (by rw [Try.params12]; intro t ht; simp at ht; subst ht <;> exact ⟨by kernel_rfl, of_decide_eq_true (by kernel_rfl)⟩)
    (by rw [Try.params12]; intro ds hd; match ds, hd with | [_, _], _ => rfl)
    (ChangeSpec.witness6 (enc := enc) (C := Try.checked) false ⟨#[], #[.slice none 0 0, .slice none 0 0], []⟩ 8 (by kernel_rfl) (by kernel_rfl) (by kernel_rfl) (by kernel_rfl)) ?_
  intro W base args ds before hval hA
  rw [Try.params12] at hA hval
  obtain ⟨v0, vs0, d0, ds0, p0, q0, hargs, rfl, rfl, h0, r0⟩ := trodAll_cons hA
  obtain ⟨v1, vs1, d1, ds1, p1, q1, rfl, rfl, rfl, h1, r1⟩ := trodAll_cons r0
  obtain ⟨rfl, rfl, rfl⟩ := trodAll_nil r1
  obtain rfl : args = #[v0, v1] := by cases args; simp_all

  exact walk W v0 (hval 0 67 v0 rfl rfl) h0 v1 (hval 1 67 v1 rfl rfl) h1

theorem proved : Rows.SegCopiesSaid :=
  OpenClaim.holds_of_wide 12 Try.f12 rfl rfl rfl rfl rfl rfl rfl ⟨rfl, rfl, rfl, rfl, rfl⟩ rfl rfl rfl rfl rfl (by kernel_rfl) Try.func12 (by kernel_rfl)
    (of_decide_eq_true (by kernel_rfl)) (by unfold Func.isWrapper; first | (rw [if_pos (by decide +kernel)]; kernel_rfl) | (rw [if_neg (by decide +kernel)]; exact ⟨rfl, rfl⟩))
    (fun os started H enc _ => lifted os started H enc)
#print axioms proved

end Go.Proofs.Ytmfoldohmbaikaa.lawSegCopies
