/- SpansFewest (6.1) answers true at every list of spans and every number, and turns nothing. No conditions. -/
import Derived.Test.YtmfoldohmbaikaaSpanW
import Derived.Test.YtmfoldohmbaikaaSpanP
import Derived.Test.YtmfoldohmbaikaaReg
import Derived.Test.YtmfoldohmbaikaaRows
import Derived.ProofKit
import Derived.Deep.Cut
namespace Go.Proofs.Ytmfoldohmbaikaa.lawSpansFewest
open Go.ChangeShapes Go.WideShapes Go.ChangeAt Go.RowKit
set_option maxRecDepth 100000 in
set_option maxHeartbeats 4000000 in
theorem walkH (w : World) (v : Value) (T : List Sp) (n : Int) (hh : HeldS w v T) : Calls Try.prog 10 #[v, .int .i64 n] w (Yes w) := by
  obtain ⟨ao, cap, rfl⟩ := hh.len
  have HH := Lib.hid hh
  clear hh
  by_cases hl : 300 < T.length
  · go_enter Try.func10, Try.ntmps10
    go_wp2_with fail
    refine (works6_any _).mono ?_
    rintro e w1 ⟨rfl, b1⟩
    go_wp2_with fail
    refine (works6_any _).mono ?_
    rintro e w2 ⟨rfl, b2⟩
    go_wp2
    go_ret
    exact ⟨(ret_eq (by first | rfl | (simp <;> omega))), b1.trans (b2.mono b1.size)⟩
  · cases hr : rightN T T.length with
    | false =>
      have HR := Lib.hid hr
      clear hr
      go_enter Try.func10, Try.ntmps10
      go_wp2_with fail
      refine (works6_any _).mono ?_
      rintro e w1 ⟨rfl, b1⟩
      have h1 := refright_any _ T w1 (HH.out.below b1) (by omega)
      rw [HR.out] at h1
      have H1 := Lib.hid h1
      clear h1
      go_wp2_with fail
      refine (H1.out).mono ?_
      rintro e w2 ⟨rfl, b2⟩
      have hb2 := b1.trans (b2.mono b1.size)
      go_wp2_with fail
      refine (works6_any _).mono ?_
      rintro e w3 ⟨rfl, b3⟩
      have hb3 := hb2.trans (b3.mono hb2.size)
      go_wp2
      go_ret
      exact ⟨(ret_eq (by first | rfl | (simp <;> omega))), hb3⟩
    | true =>
      have HR := Lib.hid hr
      obtain ⟨_, m1, m2, m3, m4, m5, m6⟩ := fewest_is hr
      obtain ⟨M, hM⟩ : ∃ M, M = fewestS T := ⟨_, rfl⟩
      rw [← hM] at m1 m2 m3 m4 m5 m6
      have HM := Lib.hid hM
      have HM1 := Lib.hid m1
      have HM2 := Lib.hid m2
      have HM3 := Lib.hid m3
      have HM4 := Lib.hid m4
      have HM5 := Lib.hid m5
      clear hr hM m1 m2 m3 m4 m5
      go_enter Try.func10, Try.ntmps10
      go_wp2_with fail
      refine (works6_any _).mono ?_
      rintro e w1 ⟨rfl, b1⟩
      have h1 := refright_any _ T w1 (HH.out.below b1) (by omega)
      rw [HR.out] at h1
      have H1 := Lib.hid h1
      clear h1
      go_wp2_with fail
      refine (H1.out).mono ?_
      rintro e w2 ⟨rfl, b2⟩
      have hb2 := b1.trans (b2.mono b1.size)
      have h2 := fewest_any _ T w2 (HH.out.below hb2) (by omega)
      rw [← HM.out] at h2
      have H2 := Lib.hid h2
      clear h2 b1 b2
      go_wp2_with fail
      refine (H2.out).mono ?_
      rintro e w3 ⟨v3, n3, rfl, hn3, ho3, b3⟩
      have hb3 := hb2.trans (b3.mono hb2.size)
      have hm3 := heldS_of_owns ho3
      obtain ⟨fo, fc, rfl⟩ := hm3.len
      have HM3' := Lib.hid hm3
      clear hn3 ho3 hm3 b3 hb2
      have h3 := refright_any _ M w3 HM3'.out (by omega)
      rw [HM1.out] at h3
      have H3 := Lib.hid h3
      clear h3
      go_wp2_with fail
      refine (H3.out).mono ?_
      rintro e w4 ⟨rfl, b4⟩
      have H4 := Lib.hid (few_any _ M w4 (HM3'.out.below b4) (by omega) HM1.out HM2.out)
      go_wp2_with fail
      refine (H4.out).mono ?_
      rintro e w5 ⟨rfl, b5⟩
      have hb5 := b4.trans (b5.mono b4.size)
      have h5 := fewest_any _ M w5 (HM3'.out.below hb5) (by omega)
      rw [HM3.out] at h5
      have H5 := Lib.hid h5
      clear h5
      go_wp2_with fail
      refine (H5.out).mono ?_
      rintro e w6 ⟨v6, n6, rfl, hn6, ho6, b6⟩
      have hb6 := hb5.trans (b6.mono hb5.size)
      have h6 := same_any v6 _ M M w6 (heldS_of_owns ho6) (HM3'.out.below hb6) (by omega) (by omega)
      rw [show decide (M = M) = true from decide_eq_true rfl] at h6
      have H6 := Lib.hid h6
      clear h6 hn6 ho6 b4 b5 b6 hb5
      go_wp2_with fail
      refine (H6.out).mono ?_
      rintro e w7 ⟨rfl, b7⟩
      have hb7 := hb6.trans (b7.mono hb6.size)
      have h7 := count_any _ M w7 (HM3'.out.below hb7) (by omega)
      rw [HM1.out, if_pos rfl, HM5.out] at h7
      have h8 := fun w8 (b8 : Below w7.heap.size w7 w8) => count_any _ T w8 (HH.out.below (hb3.trans ((hb7.trans (b8.mono hb7.size)).mono hb3.size))) (by omega)
      rw [HR.out] at h8
      simp only [if_true] at h8
      obtain ⟨c, hc⟩ : ∃ c, c = cntN T T.length := ⟨_, rfl⟩
      rw [← hc] at h7 h8
      have H7 := Lib.hid h7
      have H8 := Lib.hid h8
      clear h7 h8 b7 hb6 hc
      go_wp2_with fail
      refine (H7.out).mono ?_
      rintro e w8 ⟨rfl, b8⟩
      have hb8 := hb7.trans (b8.mono hb7.size)
      go_wp2_with fail
      refine (H8.out w8 b8).mono ?_
      rintro e w9 ⟨rfl, b9⟩
      have hb9 := hb8.trans (b9.mono hb8.size)
      have h9 := reffind_any _ M n w9 (HM3'.out.below hb9) (by omega)
      rw [HM4.out] at h9
      obtain ⟨y, hy⟩ : ∃ y, y = findS T n := ⟨_, rfl⟩
      rw [← hy] at h9
      have H9 := Lib.hid h9
      have HY := Lib.hid hy
      clear h9 b8 b9 hb8 hb7 hy
      go_wp2_with fail
      refine (H9.out).mono ?_
      rintro e w10 ⟨rfl, b10⟩
      have hb10 := hb9.trans (b10.mono hb9.size)
      have h10 := reffind_any _ T n w10 (HH.out.below (hb3.trans (hb10.mono hb3.size))) (by omega)
      rw [← HY.out] at h10
      have H10 := Lib.hid h10
      clear h10 b10 hb9
      go_wp2_with fail
      refine (H10.out).mono ?_
      rintro e W ⟨rfl, b11⟩
      have hb11 := hb10.trans (b11.mono hb10.size)
      have hW := hb3.trans (hb11.mono hb3.size)
      have HW := Lib.hid hW
      have HT := Lib.hid (HH.out.below hW)
      have HFM := Lib.hid fun (x : Int) (w' : World) (hb : Below W.heap.size W w') => reffind_any _ M x w' (HM3'.out.below (hb11.trans (hb.mono hb11.size))) (by omega)
      have HFT := Lib.hid fun (x : Int) (w' : World) (hb : Below W.heap.size W w') => reffind_any _ T x w' (HT.out.below hb) (by omega)
      clear hb11 hb10 hb3 b11 hW
      go_wp2
      go_loopw [6] (fun i wr => ∃ k : Nat, k ≤ T.length ∧ i = .int .i64 k ∧ Below W.heap.size W wr) (fun i _ => T.length - (intOf i).toNat)
      case atStart => exact ⟨0, Nat.zero_le _, rfl, Below.refl _ _⟩
      case round =>
        obtain ⟨k, hk, rfl, hbw⟩ := hrel
        by_cases hlt : k < T.length
        · obtain ⟨b, off, rfl, hb0, c0, c1, c2⟩ := HT.out.spots k hlt
          have hx := right_mem HR.out (List.getElem_mem hlt)
          rw [← getD_sp hlt] at hx
          have f1 := own_find HR.out hlt (Int.le_refl _) hx.2.1
          have f2 := own_find HR.out hlt hx.2.1 (Int.le_refl _)
          rw [← HM4.out] at f1 f2
          obtain ⟨s, hs⟩ : ∃ s, s = T.getD k z3 := ⟨_, rfl⟩
          rw [← hs] at c0 c1 c2 hx f1 f2
          obtain ⟨lo, hi, val⟩ := s
          simp only at c0 c1 c2 hx f1 f2
          obtain ⟨z, hz⟩ : ∃ z, z = findS T (hi + 1) := ⟨_, rfl⟩
          have F1 := Lib.hid fun w' hb => HFM.out lo w' hb
          have F2 := Lib.hid fun w' hb => HFM.out hi w' hb
          have F3 := Lib.hid fun w' hb => HFM.out (hi + 1) w' hb
          have F4 := Lib.hid fun w' hb => HFT.out (hi + 1) w' hb
          rw [f1] at F1
          rw [f2] at F2
          rw [HM4.out, ← hz] at F3
          rw [← hz] at F4
          have C0 := Lib.hid c0
          have C1 := Lib.hid c1
          have C2 := Lib.hid c2
          have r1 : IntKind.i64.wrap (hi + 1) = hi + 1 := by rw [IntKind.wrap_i64]; omega
          have k0 : (0 : Int) ≤ (k : Int) := by omega
          have k1 : (k : Int) < (T.length : Int) := by omega
          clear hs hx f1 f2 hz c0 c1 c2
          go_wp2_with fail
          obtain ⟨Erg, hErg⟩ : ∃ EE : Nat → Value → World → Prop, EE = fun jj xx ww => match jj with
              | 0 => xx = .slice fo M.length fc
              | 1 => xx = .slice (some ⟨b, off, none⟩) T.length cap
              | 2 => xx = .int .i64 k
              | 3 => xx = .pointer (some ⟨b, off + k * 3, none⟩)
              | 4 => xx = .pointer (some ⟨b, off + k * 3, none⟩)
              | 5 => xx = .int .i64 lo
              | 6 => xx = .int .i64 val
              | 7 => xx = .slice (some ⟨b, off, none⟩) T.length cap
              | 8 => xx = .int .i64 k
              | 9 => xx = .pointer (some ⟨b, off + k * 3, none⟩)
              | 10 => xx = .pointer (some ⟨b, off + k * 3 + 2, none⟩)
              | 11 => xx = .int .i64 val
              | 12 => xx = .bool false
              | 13 => xx = .bool false
              | 14 => xx = .slice fo M.length fc
              | 15 => xx = .slice (some ⟨b, off, none⟩) T.length cap
              | 16 => xx = .int .i64 k
              | 17 => xx = .pointer (some ⟨b, off + k * 3, none⟩)
              | 18 => xx = .pointer (some ⟨b, off + k * 3 + 1, none⟩)
              | 19 => xx = .int .i64 hi
              | 20 => xx = .int .i64 val
              | 21 => xx = .slice (some ⟨b, off, none⟩) T.length cap
              | 22 => xx = .int .i64 k
              | 23 => xx = .pointer (some ⟨b, off + k * 3, none⟩)
              | 24 => xx = .pointer (some ⟨b, off + k * 3 + 2, none⟩)
              | 25 => xx = .int .i64 val
              | 26 => xx = .bool false
              | 27 => xx = .bool false
              | 28 => xx = .bool false
              | 29 => xx = .slice fo M.length fc
              | 30 => xx = .slice (some ⟨b, off, none⟩) T.length cap
              | 31 => xx = .int .i64 k
              | 32 => xx = .pointer (some ⟨b, off + k * 3, none⟩)
              | 33 => xx = .pointer (some ⟨b, off + k * 3 + 1, none⟩)
              | 34 => xx = .int .i64 hi
              | 35 => xx = .int .i64 (hi + 1)
              | 36 => xx = .int .i64 z
              | 37 => xx = .slice (some ⟨b, off, none⟩) T.length cap
              | 38 => xx = .slice (some ⟨b, off, none⟩) T.length cap
              | 39 => xx = .int .i64 k
              | 40 => xx = .pointer (some ⟨b, off + k * 3, none⟩)
              | 41 => xx = .pointer (some ⟨b, off + k * 3 + 1, none⟩)
              | 42 => xx = .int .i64 hi
              | 43 => xx = .int .i64 (hi + 1)
              | 44 => xx = .int .i64 z
              | 45 => xx = .bool false
              | 46 => xx = .bool false
              | _ => True := ⟨_, rfl⟩
          have erg0 : ∀ xx ww, Erg 0 xx ww = (xx = .slice fo M.length fc) := fun xx ww => congrFun (congrFun (congrFun hErg 0) xx) ww
          have erg1 : ∀ xx ww, Erg 1 xx ww = (xx = .slice (some ⟨b, off, none⟩) T.length cap) := fun xx ww => congrFun (congrFun (congrFun hErg 1) xx) ww
          have erg2 : ∀ xx ww, Erg 2 xx ww = (xx = .int .i64 k) := fun xx ww => congrFun (congrFun (congrFun hErg 2) xx) ww
          have erg3 : ∀ xx ww, Erg 3 xx ww = (xx = .pointer (some ⟨b, off + k * 3, none⟩)) := fun xx ww => congrFun (congrFun (congrFun hErg 3) xx) ww
          have erg4 : ∀ xx ww, Erg 4 xx ww = (xx = .pointer (some ⟨b, off + k * 3, none⟩)) := fun xx ww => congrFun (congrFun (congrFun hErg 4) xx) ww
          have erg5 : ∀ xx ww, Erg 5 xx ww = (xx = .int .i64 lo) := fun xx ww => congrFun (congrFun (congrFun hErg 5) xx) ww
          have erg6 : ∀ xx ww, Erg 6 xx ww = (xx = .int .i64 val) := fun xx ww => congrFun (congrFun (congrFun hErg 6) xx) ww
          have erg7 : ∀ xx ww, Erg 7 xx ww = (xx = .slice (some ⟨b, off, none⟩) T.length cap) := fun xx ww => congrFun (congrFun (congrFun hErg 7) xx) ww
          have erg8 : ∀ xx ww, Erg 8 xx ww = (xx = .int .i64 k) := fun xx ww => congrFun (congrFun (congrFun hErg 8) xx) ww
          have erg9 : ∀ xx ww, Erg 9 xx ww = (xx = .pointer (some ⟨b, off + k * 3, none⟩)) := fun xx ww => congrFun (congrFun (congrFun hErg 9) xx) ww
          have erg10 : ∀ xx ww, Erg 10 xx ww = (xx = .pointer (some ⟨b, off + k * 3 + 2, none⟩)) := fun xx ww => congrFun (congrFun (congrFun hErg 10) xx) ww
          have erg11 : ∀ xx ww, Erg 11 xx ww = (xx = .int .i64 val) := fun xx ww => congrFun (congrFun (congrFun hErg 11) xx) ww
          have erg12 : ∀ xx ww, Erg 12 xx ww = (xx = .bool false) := fun xx ww => congrFun (congrFun (congrFun hErg 12) xx) ww
          have erg13 : ∀ xx ww, Erg 13 xx ww = (xx = .bool false) := fun xx ww => congrFun (congrFun (congrFun hErg 13) xx) ww
          have erg14 : ∀ xx ww, Erg 14 xx ww = (xx = .slice fo M.length fc) := fun xx ww => congrFun (congrFun (congrFun hErg 14) xx) ww
          have erg15 : ∀ xx ww, Erg 15 xx ww = (xx = .slice (some ⟨b, off, none⟩) T.length cap) := fun xx ww => congrFun (congrFun (congrFun hErg 15) xx) ww
          have erg16 : ∀ xx ww, Erg 16 xx ww = (xx = .int .i64 k) := fun xx ww => congrFun (congrFun (congrFun hErg 16) xx) ww
          have erg17 : ∀ xx ww, Erg 17 xx ww = (xx = .pointer (some ⟨b, off + k * 3, none⟩)) := fun xx ww => congrFun (congrFun (congrFun hErg 17) xx) ww
          have erg18 : ∀ xx ww, Erg 18 xx ww = (xx = .pointer (some ⟨b, off + k * 3 + 1, none⟩)) := fun xx ww => congrFun (congrFun (congrFun hErg 18) xx) ww
          have erg19 : ∀ xx ww, Erg 19 xx ww = (xx = .int .i64 hi) := fun xx ww => congrFun (congrFun (congrFun hErg 19) xx) ww
          have erg20 : ∀ xx ww, Erg 20 xx ww = (xx = .int .i64 val) := fun xx ww => congrFun (congrFun (congrFun hErg 20) xx) ww
          have erg21 : ∀ xx ww, Erg 21 xx ww = (xx = .slice (some ⟨b, off, none⟩) T.length cap) := fun xx ww => congrFun (congrFun (congrFun hErg 21) xx) ww
          have erg22 : ∀ xx ww, Erg 22 xx ww = (xx = .int .i64 k) := fun xx ww => congrFun (congrFun (congrFun hErg 22) xx) ww
          have erg23 : ∀ xx ww, Erg 23 xx ww = (xx = .pointer (some ⟨b, off + k * 3, none⟩)) := fun xx ww => congrFun (congrFun (congrFun hErg 23) xx) ww
          have erg24 : ∀ xx ww, Erg 24 xx ww = (xx = .pointer (some ⟨b, off + k * 3 + 2, none⟩)) := fun xx ww => congrFun (congrFun (congrFun hErg 24) xx) ww
          have erg25 : ∀ xx ww, Erg 25 xx ww = (xx = .int .i64 val) := fun xx ww => congrFun (congrFun (congrFun hErg 25) xx) ww
          have erg26 : ∀ xx ww, Erg 26 xx ww = (xx = .bool false) := fun xx ww => congrFun (congrFun (congrFun hErg 26) xx) ww
          have erg27 : ∀ xx ww, Erg 27 xx ww = (xx = .bool false) := fun xx ww => congrFun (congrFun (congrFun hErg 27) xx) ww
          have erg28 : ∀ xx ww, Erg 28 xx ww = (xx = .bool false) := fun xx ww => congrFun (congrFun (congrFun hErg 28) xx) ww
          have erg29 : ∀ xx ww, Erg 29 xx ww = (xx = .slice fo M.length fc) := fun xx ww => congrFun (congrFun (congrFun hErg 29) xx) ww
          have erg30 : ∀ xx ww, Erg 30 xx ww = (xx = .slice (some ⟨b, off, none⟩) T.length cap) := fun xx ww => congrFun (congrFun (congrFun hErg 30) xx) ww
          have erg31 : ∀ xx ww, Erg 31 xx ww = (xx = .int .i64 k) := fun xx ww => congrFun (congrFun (congrFun hErg 31) xx) ww
          have erg32 : ∀ xx ww, Erg 32 xx ww = (xx = .pointer (some ⟨b, off + k * 3, none⟩)) := fun xx ww => congrFun (congrFun (congrFun hErg 32) xx) ww
          have erg33 : ∀ xx ww, Erg 33 xx ww = (xx = .pointer (some ⟨b, off + k * 3 + 1, none⟩)) := fun xx ww => congrFun (congrFun (congrFun hErg 33) xx) ww
          have erg34 : ∀ xx ww, Erg 34 xx ww = (xx = .int .i64 hi) := fun xx ww => congrFun (congrFun (congrFun hErg 34) xx) ww
          have erg35 : ∀ xx ww, Erg 35 xx ww = (xx = .int .i64 (hi + 1)) := fun xx ww => congrFun (congrFun (congrFun hErg 35) xx) ww
          have erg36 : ∀ xx ww, Erg 36 xx ww = (xx = .int .i64 z) := fun xx ww => congrFun (congrFun (congrFun hErg 36) xx) ww
          have erg37 : ∀ xx ww, Erg 37 xx ww = (xx = .slice (some ⟨b, off, none⟩) T.length cap) := fun xx ww => congrFun (congrFun (congrFun hErg 37) xx) ww
          have erg38 : ∀ xx ww, Erg 38 xx ww = (xx = .slice (some ⟨b, off, none⟩) T.length cap) := fun xx ww => congrFun (congrFun (congrFun hErg 38) xx) ww
          have erg39 : ∀ xx ww, Erg 39 xx ww = (xx = .int .i64 k) := fun xx ww => congrFun (congrFun (congrFun hErg 39) xx) ww
          have erg40 : ∀ xx ww, Erg 40 xx ww = (xx = .pointer (some ⟨b, off + k * 3, none⟩)) := fun xx ww => congrFun (congrFun (congrFun hErg 40) xx) ww
          have erg41 : ∀ xx ww, Erg 41 xx ww = (xx = .pointer (some ⟨b, off + k * 3 + 1, none⟩)) := fun xx ww => congrFun (congrFun (congrFun hErg 41) xx) ww
          have erg42 : ∀ xx ww, Erg 42 xx ww = (xx = .int .i64 hi) := fun xx ww => congrFun (congrFun (congrFun hErg 42) xx) ww
          have erg43 : ∀ xx ww, Erg 43 xx ww = (xx = .int .i64 (hi + 1)) := fun xx ww => congrFun (congrFun (congrFun hErg 43) xx) ww
          have erg44 : ∀ xx ww, Erg 44 xx ww = (xx = .int .i64 z) := fun xx ww => congrFun (congrFun (congrFun hErg 44) xx) ww
          have erg45 : ∀ xx ww, Erg 45 xx ww = (xx = .bool false) := fun xx ww => congrFun (congrFun (congrFun hErg 45) xx) ww
          have erg46 : ∀ xx ww, Erg 46 xx ww = (xx = .bool false) := fun xx ww => congrFun (congrFun (congrFun hErg 46) xx) ww
          obtain ⟨Crg, hCrg⟩ : ∃ CC : Array Bool → World → Prop, CC = fun L w' => Below W.heap.size W w' := ⟨_, rfl⟩
          have krg : ∀ i L w,  Crg L w → Crg (L.setIfInBounds i true) w := by
            intro i L w  h
            rw [hCrg] at h ⊢
            exact h
          obtain ⟨Xrg, hXrg⟩ : ∃ XX : World → World → Prop, XX = fun w w1 => Below w.heap.size w w1 := ⟨_, rfl⟩
          have xrg : ∀ w, Xrg w w := fun w => by rw [hXrg]; exact Below.refl _ _
          have strg : ∀ j x w w1, Xrg w w1 → Erg j x w → Erg j x w1 := by
            intro j x w w1 hx h
            rw [hXrg] at hx
            match j with
            | 0 => rw [erg0] at h ⊢; exact h
            | 1 => rw [erg1] at h ⊢; exact h
            | 2 => rw [erg2] at h ⊢; exact h
            | 3 => rw [erg3] at h ⊢; exact h
            | 4 => rw [erg4] at h ⊢; exact h
            | 5 => rw [erg5] at h ⊢; exact h
            | 6 => rw [erg6] at h ⊢; exact h
            | 7 => rw [erg7] at h ⊢; exact h
            | 8 => rw [erg8] at h ⊢; exact h
            | 9 => rw [erg9] at h ⊢; exact h
            | 10 => rw [erg10] at h ⊢; exact h
            | 11 => rw [erg11] at h ⊢; exact h
            | 12 => rw [erg12] at h ⊢; exact h
            | 13 => rw [erg13] at h ⊢; exact h
            | 14 => rw [erg14] at h ⊢; exact h
            | 15 => rw [erg15] at h ⊢; exact h
            | 16 => rw [erg16] at h ⊢; exact h
            | 17 => rw [erg17] at h ⊢; exact h
            | 18 => rw [erg18] at h ⊢; exact h
            | 19 => rw [erg19] at h ⊢; exact h
            | 20 => rw [erg20] at h ⊢; exact h
            | 21 => rw [erg21] at h ⊢; exact h
            | 22 => rw [erg22] at h ⊢; exact h
            | 23 => rw [erg23] at h ⊢; exact h
            | 24 => rw [erg24] at h ⊢; exact h
            | 25 => rw [erg25] at h ⊢; exact h
            | 26 => rw [erg26] at h ⊢; exact h
            | 27 => rw [erg27] at h ⊢; exact h
            | 28 => rw [erg28] at h ⊢; exact h
            | 29 => rw [erg29] at h ⊢; exact h
            | 30 => rw [erg30] at h ⊢; exact h
            | 31 => rw [erg31] at h ⊢; exact h
            | 32 => rw [erg32] at h ⊢; exact h
            | 33 => rw [erg33] at h ⊢; exact h
            | 34 => rw [erg34] at h ⊢; exact h
            | 35 => rw [erg35] at h ⊢; exact h
            | 36 => rw [erg36] at h ⊢; exact h
            | 37 => rw [erg37] at h ⊢; exact h
            | 38 => rw [erg38] at h ⊢; exact h
            | 39 => rw [erg39] at h ⊢; exact h
            | 40 => rw [erg40] at h ⊢; exact h
            | 41 => rw [erg41] at h ⊢; exact h
            | 42 => rw [erg42] at h ⊢; exact h
            | 43 => rw [erg43] at h ⊢; exact h
            | 44 => rw [erg44] at h ⊢; exact h
            | 45 => rw [erg45] at h ⊢; exact h
            | 46 => rw [erg46] at h ⊢; exact h
            | j + 47 => rw [hErg]; trivial
          have crg : Crg (Array.replicate 47 false) wr.drew := by rw [hCrg]; exact hbw.drew
          have brg : ∀ L w w1, Crg L w → Below w.heap.size w w1 → Crg L w1 := by
            intro L w w1 h hb
            rw [hCrg] at h ⊢
            exact h.trans (hb.mono h.size)
          have xbrg : ∀ w w1, Below w.heap.size w w1 → Xrg w w1 := by
            intro w w1 hb
            rw [hXrg]
            exact hb
          have Hrgb := Lib.hid brg
          have Hrgxb := Lib.hid xbrg
          clear brg xbrg
          clear hErg
          have Hrgk := Lib.hid krg
          have Hrgx := Lib.hid xrg
          have Hrgst := Lib.hid strg
          have Hrgc := Lib.hid crg
          have HrghC := Lib.hid hCrg
          have HrghX := Lib.hid hXrg
          have Hrge0 := Lib.hid erg0
          have Hrge1 := Lib.hid erg1
          have Hrge2 := Lib.hid erg2
          have Hrge3 := Lib.hid erg3
          have Hrge4 := Lib.hid erg4
          have Hrge5 := Lib.hid erg5
          have Hrge6 := Lib.hid erg6
          have Hrge7 := Lib.hid erg7
          have Hrge8 := Lib.hid erg8
          have Hrge9 := Lib.hid erg9
          have Hrge10 := Lib.hid erg10
          have Hrge11 := Lib.hid erg11
          have Hrge12 := Lib.hid erg12
          have Hrge13 := Lib.hid erg13
          have Hrge14 := Lib.hid erg14
          have Hrge15 := Lib.hid erg15
          have Hrge16 := Lib.hid erg16
          have Hrge17 := Lib.hid erg17
          have Hrge18 := Lib.hid erg18
          have Hrge19 := Lib.hid erg19
          have Hrge20 := Lib.hid erg20
          have Hrge21 := Lib.hid erg21
          have Hrge22 := Lib.hid erg22
          have Hrge23 := Lib.hid erg23
          have Hrge24 := Lib.hid erg24
          have Hrge25 := Lib.hid erg25
          have Hrge26 := Lib.hid erg26
          have Hrge27 := Lib.hid erg27
          have Hrge28 := Lib.hid erg28
          have Hrge29 := Lib.hid erg29
          have Hrge30 := Lib.hid erg30
          have Hrge31 := Lib.hid erg31
          have Hrge32 := Lib.hid erg32
          have Hrge33 := Lib.hid erg33
          have Hrge34 := Lib.hid erg34
          have Hrge35 := Lib.hid erg35
          have Hrge36 := Lib.hid erg36
          have Hrge37 := Lib.hid erg37
          have Hrge38 := Lib.hid erg38
          have Hrge39 := Lib.hid erg39
          have Hrge40 := Lib.hid erg40
          have Hrge41 := Lib.hid erg41
          have Hrge42 := Lib.hid erg42
          have Hrge43 := Lib.hid erg43
          have Hrge44 := Lib.hid erg44
          have Hrge45 := Lib.hid erg45
          have Hrge46 := Lib.hid erg46
          clear krg xrg strg crg hCrg hXrg erg0 erg1 erg2 erg3 erg4 erg5 erg6 erg7 erg8 erg9 erg10 erg11 erg12 erg13 erg14 erg15 erg16 erg17 erg18 erg19 erg20 erg21 erg22 erg23 erg24 erg25 erg26 erg27 erg28 erg29 erg30 erg31 erg32 erg33 erg34 erg35 erg36 erg37 erg38 erg39 erg40 erg41 erg42 erg43 erg44 erg45 erg46
          go_wp2_with fail
          refine Reg.regionF Erg Crg Xrg Hrgst.out (by kernel_rfl) (by kernel_rfl) (by kernel_rfl) Hrgc.out (fun Frg hFrg => ?_)
          simp only [Reg.frame, Reg.dsts, List.map_cons, List.map_nil, Mix.put_lit, Reg.put_none, List.set_cons_succ, List.set_cons_zero, Array.getD, Nat.zero_add, Nat.reduceAdd] at hFrg
          refine ⟨?_, ?_⟩
          · refine ⟨?_, ?_, ?_, ?_, ?_, ?_, ?_, ?_, ?_, ?_, ?_, ?_, ?_, ?_, ?_, ?_, ?_, ?_, ?_, ?_, ?_, ?_, ?_, ?_, ?_, ?_, ?_, ?_, ?_, ?_, ?_, ?_, ?_, ?_, ?_, ?_, ?_, ?_, ?_, ?_, ?_, ?_, ?_, ?_, ?_, ?_, ?_, trivial⟩
            · intro Lq wq xq hh
              simp only [hFrg]
              refine .inl ⟨rfl, ?_⟩
              unfold Reg.upon
              have hk := Hrgk.out 0 Lq wq  hh.cls
              have hx := Hrgx.out wq
              have he : Erg 0 (.slice fo M.length fc) wq := by rw [Hrge0.out]
              have HK := Lib.hid (And.intro hk (And.intro he hx))
              clear hk hx he
              go_simp
              exact HK.out
            · intro Lq wq xq hh
              simp only [hFrg]
              refine .inl ⟨rfl, ?_⟩
              unfold Reg.upon
              have hk := Hrgk.out 1 Lq wq  hh.cls
              have hx := Hrgx.out wq
              have he : Erg 1 (.slice (some ⟨b, off, none⟩) T.length cap) wq := by rw [Hrge1.out]
              have HK := Lib.hid (And.intro hk (And.intro he hx))
              clear hk hx he
              go_simp
              exact HK.out
            · intro Lq wq xq hh
              simp only [hFrg]
              refine .inl ⟨rfl, ?_⟩
              unfold Reg.upon
              have hk := Hrgk.out 2 Lq wq  hh.cls
              have hx := Hrgx.out wq
              have he : Erg 2 (.int .i64 k) wq := by rw [Hrge2.out]
              have HK := Lib.hid (And.intro hk (And.intro he hx))
              clear hk hx he
              go_simp
              exact HK.out
            · intro Lq wq xq hh
              have d1 : Erg 1 (xq 1) wq := hh.val 1 (by kernel_rfl) (by kernel_rfl)
              rw [Hrge1.out] at d1
              have d2 : Erg 2 (xq 2) wq := hh.val 2 (by kernel_rfl) (by kernel_rfl)
              rw [Hrge2.out] at d2
              simp only [hFrg, d1, d2]
              clear d1 d2
              refine .inl ⟨rfl, ?_⟩
              unfold Reg.upon
              have hk := Hrgk.out 3 Lq wq  hh.cls
              have hx := Hrgx.out wq
              have he : Erg 3 (.pointer (some ⟨b, off + k * 3, none⟩)) wq := by rw [Hrge3.out]
              have HK := Lib.hid (And.intro hk (And.intro he hx))
              clear hk hx he
              go_simp
              exact HK.out
            · intro Lq wq xq hh
              have d3 : Erg 3 (xq 3) wq := hh.val 3 (by kernel_rfl) (by kernel_rfl)
              rw [Hrge3.out] at d3
              simp only [hFrg, d3]
              clear d3
              refine .inl ⟨rfl, ?_⟩
              unfold Reg.upon
              have hk := Hrgk.out 4 Lq wq  hh.cls
              have hx := Hrgx.out wq
              have he : Erg 4 (.pointer (some ⟨b, off + k * 3, none⟩)) wq := by rw [Hrge4.out]
              have HK := Lib.hid (And.intro hk (And.intro he hx))
              clear hk hx he
              go_simp
              exact HK.out
            · intro Lq wq xq hh
              have d4 : Erg 4 (xq 4) wq := hh.val 4 (by kernel_rfl) (by kernel_rfl)
              rw [Hrge4.out] at d4
              simp only [hFrg, d4]
              clear d4
              refine .inl ⟨rfl, ?_⟩
              unfold Reg.upon
              have hc : Crg Lq wq := hh.cls
              rw [HrghC.out] at hc
              have hcell := (hc.cell (p := ⟨b, off + k * 3, none⟩) hb0).trans C0.out
              clear hc
              have hk := Hrgk.out 5 Lq wq  hh.cls
              have hx := Hrgx.out wq
              have he : Erg 5 (.int .i64 lo) wq := by rw [Hrge5.out]
              have HK := Lib.hid (And.intro hk (And.intro he hx))
              clear hk hx he
              go_simp
              exact HK.out
            · intro Lq wq xq hh
              have d0 : Erg 0 (xq 0) wq := hh.val 0 (by kernel_rfl) (by kernel_rfl)
              rw [Hrge0.out] at d0
              have d5 : Erg 5 (xq 5) wq := hh.val 5 (by kernel_rfl) (by kernel_rfl)
              rw [Hrge5.out] at d5
              simp only [hFrg, d0, d5]
              clear d0 d5
              refine .inl ⟨rfl, ?_⟩
              unfold Reg.upon
              have hc : Crg Lq wq := hh.cls
              rw [HrghC.out] at hc
              go_simp
              refine (F1.out _ hc).mono ?_
              rintro e w2 ⟨rfl, hb⟩
              exact ⟨_, rfl, Hrgk.out 6 Lq w2  (Hrgb.out Lq wq w2 hh.cls hb), (by rw [Hrge6.out]; try rfl), Hrgxb.out wq w2 hb⟩
            · intro Lq wq xq hh
              simp only [hFrg]
              refine .inl ⟨rfl, ?_⟩
              unfold Reg.upon
              have hk := Hrgk.out 7 Lq wq  hh.cls
              have hx := Hrgx.out wq
              have he : Erg 7 (.slice (some ⟨b, off, none⟩) T.length cap) wq := by rw [Hrge7.out]
              have HK := Lib.hid (And.intro hk (And.intro he hx))
              clear hk hx he
              go_simp
              exact HK.out
            · intro Lq wq xq hh
              simp only [hFrg]
              refine .inl ⟨rfl, ?_⟩
              unfold Reg.upon
              have hk := Hrgk.out 8 Lq wq  hh.cls
              have hx := Hrgx.out wq
              have he : Erg 8 (.int .i64 k) wq := by rw [Hrge8.out]
              have HK := Lib.hid (And.intro hk (And.intro he hx))
              clear hk hx he
              go_simp
              exact HK.out
            · intro Lq wq xq hh
              have d7 : Erg 7 (xq 7) wq := hh.val 7 (by kernel_rfl) (by kernel_rfl)
              rw [Hrge7.out] at d7
              have d8 : Erg 8 (xq 8) wq := hh.val 8 (by kernel_rfl) (by kernel_rfl)
              rw [Hrge8.out] at d8
              simp only [hFrg, d7, d8]
              clear d7 d8
              refine .inl ⟨rfl, ?_⟩
              unfold Reg.upon
              have hk := Hrgk.out 9 Lq wq  hh.cls
              have hx := Hrgx.out wq
              have he : Erg 9 (.pointer (some ⟨b, off + k * 3, none⟩)) wq := by rw [Hrge9.out]
              have HK := Lib.hid (And.intro hk (And.intro he hx))
              clear hk hx he
              go_simp
              exact HK.out
            · intro Lq wq xq hh
              have d9 : Erg 9 (xq 9) wq := hh.val 9 (by kernel_rfl) (by kernel_rfl)
              rw [Hrge9.out] at d9
              simp only [hFrg, d9]
              clear d9
              refine .inl ⟨rfl, ?_⟩
              unfold Reg.upon
              have hk := Hrgk.out 10 Lq wq  hh.cls
              have hx := Hrgx.out wq
              have he : Erg 10 (.pointer (some ⟨b, off + k * 3 + 2, none⟩)) wq := by rw [Hrge10.out]
              have HK := Lib.hid (And.intro hk (And.intro he hx))
              clear hk hx he
              go_simp
              exact HK.out
            · intro Lq wq xq hh
              have d10 : Erg 10 (xq 10) wq := hh.val 10 (by kernel_rfl) (by kernel_rfl)
              rw [Hrge10.out] at d10
              simp only [hFrg, d10]
              clear d10
              refine .inl ⟨rfl, ?_⟩
              unfold Reg.upon
              have hc : Crg Lq wq := hh.cls
              rw [HrghC.out] at hc
              have hcell := (hc.cell (p := ⟨b, off + k * 3 + 2, none⟩) hb0).trans C2.out
              clear hc
              have hk := Hrgk.out 11 Lq wq  hh.cls
              have hx := Hrgx.out wq
              have he : Erg 11 (.int .i64 val) wq := by rw [Hrge11.out]
              have HK := Lib.hid (And.intro hk (And.intro he hx))
              clear hk hx he
              go_simp
              exact HK.out
            · intro Lq wq xq hh
              have d6 : Erg 6 (xq 6) wq := hh.val 6 (by kernel_rfl) (by kernel_rfl)
              rw [Hrge6.out] at d6
              have d11 : Erg 11 (xq 11) wq := hh.val 11 (by kernel_rfl) (by kernel_rfl)
              rw [Hrge11.out] at d11
              simp only [hFrg, d6, d11]
              clear d6 d11
              refine .inl ⟨rfl, ?_⟩
              unfold Reg.upon
              have hk := Hrgk.out 12 Lq wq  hh.cls
              have hx := Hrgx.out wq
              have he : Erg 12 (.bool false) wq := by rw [Hrge12.out]
              have HK := Lib.hid (And.intro hk (And.intro he hx))
              clear hk hx he
              go_simp
              exact HK.out
            · intro Lq wq xq hh
              have d12 : Erg 12 (xq 12) wq := hh.val 12 (by kernel_rfl) (by kernel_rfl)
              rw [Hrge12.out] at d12
              simp only [hFrg, d12]
              clear d12
              refine .inl ⟨rfl, ?_⟩
              unfold Reg.upon
              have hk := Hrgk.out 13 Lq wq  hh.cls
              have hx := Hrgx.out wq
              have he : Erg 13 (.bool false) wq := by rw [Hrge13.out]
              have HK := Lib.hid (And.intro hk (And.intro he hx))
              clear hk hx he
              go_simp
              exact HK.out
            · intro Lq wq xq hh
              have d13 : Erg 13 (xq 13) wq := hh.val 13 (by kernel_rfl) (by kernel_rfl)
              rw [Hrge13.out] at d13
              simp only [hFrg, d13]
              clear d13
              refine .inl ⟨rfl, ?_⟩
              unfold Reg.upon
              have hk := Hrgk.out 14 Lq wq  hh.cls
              have hx := Hrgx.out wq
              have he : Erg 14 (.slice fo M.length fc) wq := by rw [Hrge14.out]
              have HK := Lib.hid (And.intro hk (And.intro he hx))
              clear hk hx he
              go_simp
              exact HK.out
            · intro Lq wq xq hh
              have d13 : Erg 13 (xq 13) wq := hh.val 13 (by kernel_rfl) (by kernel_rfl)
              rw [Hrge13.out] at d13
              simp only [hFrg, d13]
              clear d13
              refine .inl ⟨rfl, ?_⟩
              unfold Reg.upon
              have hk := Hrgk.out 15 Lq wq  hh.cls
              have hx := Hrgx.out wq
              have he : Erg 15 (.slice (some ⟨b, off, none⟩) T.length cap) wq := by rw [Hrge15.out]
              have HK := Lib.hid (And.intro hk (And.intro he hx))
              clear hk hx he
              go_simp
              exact HK.out
            · intro Lq wq xq hh
              have d13 : Erg 13 (xq 13) wq := hh.val 13 (by kernel_rfl) (by kernel_rfl)
              rw [Hrge13.out] at d13
              simp only [hFrg, d13]
              clear d13
              refine .inl ⟨rfl, ?_⟩
              unfold Reg.upon
              have hk := Hrgk.out 16 Lq wq  hh.cls
              have hx := Hrgx.out wq
              have he : Erg 16 (.int .i64 k) wq := by rw [Hrge16.out]
              have HK := Lib.hid (And.intro hk (And.intro he hx))
              clear hk hx he
              go_simp
              exact HK.out
            · intro Lq wq xq hh
              have d13 : Erg 13 (xq 13) wq := hh.val 13 (by kernel_rfl) (by kernel_rfl)
              rw [Hrge13.out] at d13
              have d15 : Erg 15 (xq 15) wq := hh.val 15 (by kernel_rfl) (by kernel_rfl)
              rw [Hrge15.out] at d15
              have d16 : Erg 16 (xq 16) wq := hh.val 16 (by kernel_rfl) (by kernel_rfl)
              rw [Hrge16.out] at d16
              simp only [hFrg, d13, d15, d16]
              clear d13 d15 d16
              refine .inl ⟨rfl, ?_⟩
              unfold Reg.upon
              have hk := Hrgk.out 17 Lq wq  hh.cls
              have hx := Hrgx.out wq
              have he : Erg 17 (.pointer (some ⟨b, off + k * 3, none⟩)) wq := by rw [Hrge17.out]
              have HK := Lib.hid (And.intro hk (And.intro he hx))
              clear hk hx he
              go_simp
              exact HK.out
            · intro Lq wq xq hh
              have d13 : Erg 13 (xq 13) wq := hh.val 13 (by kernel_rfl) (by kernel_rfl)
              rw [Hrge13.out] at d13
              have d17 : Erg 17 (xq 17) wq := hh.val 17 (by kernel_rfl) (by kernel_rfl)
              rw [Hrge17.out] at d17
              simp only [hFrg, d13, d17]
              clear d13 d17
              refine .inl ⟨rfl, ?_⟩
              unfold Reg.upon
              have hk := Hrgk.out 18 Lq wq  hh.cls
              have hx := Hrgx.out wq
              have he : Erg 18 (.pointer (some ⟨b, off + k * 3 + 1, none⟩)) wq := by rw [Hrge18.out]
              have HK := Lib.hid (And.intro hk (And.intro he hx))
              clear hk hx he
              go_simp
              exact HK.out
            · intro Lq wq xq hh
              have d13 : Erg 13 (xq 13) wq := hh.val 13 (by kernel_rfl) (by kernel_rfl)
              rw [Hrge13.out] at d13
              have d18 : Erg 18 (xq 18) wq := hh.val 18 (by kernel_rfl) (by kernel_rfl)
              rw [Hrge18.out] at d18
              simp only [hFrg, d13, d18]
              clear d13 d18
              refine .inl ⟨rfl, ?_⟩
              unfold Reg.upon
              have hc : Crg Lq wq := hh.cls
              rw [HrghC.out] at hc
              have hcell := (hc.cell (p := ⟨b, off + k * 3 + 1, none⟩) hb0).trans C1.out
              clear hc
              have hk := Hrgk.out 19 Lq wq  hh.cls
              have hx := Hrgx.out wq
              have he : Erg 19 (.int .i64 hi) wq := by rw [Hrge19.out]
              have HK := Lib.hid (And.intro hk (And.intro he hx))
              clear hk hx he
              go_simp
              exact HK.out
            · intro Lq wq xq hh
              have d13 : Erg 13 (xq 13) wq := hh.val 13 (by kernel_rfl) (by kernel_rfl)
              rw [Hrge13.out] at d13
              have d14 : Erg 14 (xq 14) wq := hh.val 14 (by kernel_rfl) (by kernel_rfl)
              rw [Hrge14.out] at d14
              have d19 : Erg 19 (xq 19) wq := hh.val 19 (by kernel_rfl) (by kernel_rfl)
              rw [Hrge19.out] at d19
              simp only [hFrg, d13, d14, d19]
              clear d13 d14 d19
              refine .inl ⟨rfl, ?_⟩
              unfold Reg.upon
              have hc : Crg Lq wq := hh.cls
              rw [HrghC.out] at hc
              go_simp
              refine (F2.out _ hc).mono ?_
              rintro e w2 ⟨rfl, hb⟩
              exact ⟨_, rfl, Hrgk.out 20 Lq w2  (Hrgb.out Lq wq w2 hh.cls hb), (by rw [Hrge20.out]; try rfl), Hrgxb.out wq w2 hb⟩
            · intro Lq wq xq hh
              have d13 : Erg 13 (xq 13) wq := hh.val 13 (by kernel_rfl) (by kernel_rfl)
              rw [Hrge13.out] at d13
              simp only [hFrg, d13]
              clear d13
              refine .inl ⟨rfl, ?_⟩
              unfold Reg.upon
              have hk := Hrgk.out 21 Lq wq  hh.cls
              have hx := Hrgx.out wq
              have he : Erg 21 (.slice (some ⟨b, off, none⟩) T.length cap) wq := by rw [Hrge21.out]
              have HK := Lib.hid (And.intro hk (And.intro he hx))
              clear hk hx he
              go_simp
              exact HK.out
            · intro Lq wq xq hh
              have d13 : Erg 13 (xq 13) wq := hh.val 13 (by kernel_rfl) (by kernel_rfl)
              rw [Hrge13.out] at d13
              simp only [hFrg, d13]
              clear d13
              refine .inl ⟨rfl, ?_⟩
              unfold Reg.upon
              have hk := Hrgk.out 22 Lq wq  hh.cls
              have hx := Hrgx.out wq
              have he : Erg 22 (.int .i64 k) wq := by rw [Hrge22.out]
              have HK := Lib.hid (And.intro hk (And.intro he hx))
              clear hk hx he
              go_simp
              exact HK.out
            · intro Lq wq xq hh
              have d13 : Erg 13 (xq 13) wq := hh.val 13 (by kernel_rfl) (by kernel_rfl)
              rw [Hrge13.out] at d13
              have d21 : Erg 21 (xq 21) wq := hh.val 21 (by kernel_rfl) (by kernel_rfl)
              rw [Hrge21.out] at d21
              have d22 : Erg 22 (xq 22) wq := hh.val 22 (by kernel_rfl) (by kernel_rfl)
              rw [Hrge22.out] at d22
              simp only [hFrg, d13, d21, d22]
              clear d13 d21 d22
              refine .inl ⟨rfl, ?_⟩
              unfold Reg.upon
              have hk := Hrgk.out 23 Lq wq  hh.cls
              have hx := Hrgx.out wq
              have he : Erg 23 (.pointer (some ⟨b, off + k * 3, none⟩)) wq := by rw [Hrge23.out]
              have HK := Lib.hid (And.intro hk (And.intro he hx))
              clear hk hx he
              go_simp
              exact HK.out
            · intro Lq wq xq hh
              have d13 : Erg 13 (xq 13) wq := hh.val 13 (by kernel_rfl) (by kernel_rfl)
              rw [Hrge13.out] at d13
              have d23 : Erg 23 (xq 23) wq := hh.val 23 (by kernel_rfl) (by kernel_rfl)
              rw [Hrge23.out] at d23
              simp only [hFrg, d13, d23]
              clear d13 d23
              refine .inl ⟨rfl, ?_⟩
              unfold Reg.upon
              have hk := Hrgk.out 24 Lq wq  hh.cls
              have hx := Hrgx.out wq
              have he : Erg 24 (.pointer (some ⟨b, off + k * 3 + 2, none⟩)) wq := by rw [Hrge24.out]
              have HK := Lib.hid (And.intro hk (And.intro he hx))
              clear hk hx he
              go_simp
              exact HK.out
            · intro Lq wq xq hh
              have d13 : Erg 13 (xq 13) wq := hh.val 13 (by kernel_rfl) (by kernel_rfl)
              rw [Hrge13.out] at d13
              have d24 : Erg 24 (xq 24) wq := hh.val 24 (by kernel_rfl) (by kernel_rfl)
              rw [Hrge24.out] at d24
              simp only [hFrg, d13, d24]
              clear d13 d24
              refine .inl ⟨rfl, ?_⟩
              unfold Reg.upon
              have hc : Crg Lq wq := hh.cls
              rw [HrghC.out] at hc
              have hcell := (hc.cell (p := ⟨b, off + k * 3 + 2, none⟩) hb0).trans C2.out
              clear hc
              have hk := Hrgk.out 25 Lq wq  hh.cls
              have hx := Hrgx.out wq
              have he : Erg 25 (.int .i64 val) wq := by rw [Hrge25.out]
              have HK := Lib.hid (And.intro hk (And.intro he hx))
              clear hk hx he
              go_simp
              exact HK.out
            · intro Lq wq xq hh
              have d13 : Erg 13 (xq 13) wq := hh.val 13 (by kernel_rfl) (by kernel_rfl)
              rw [Hrge13.out] at d13
              have d20 : Erg 20 (xq 20) wq := hh.val 20 (by kernel_rfl) (by kernel_rfl)
              rw [Hrge20.out] at d20
              have d25 : Erg 25 (xq 25) wq := hh.val 25 (by kernel_rfl) (by kernel_rfl)
              rw [Hrge25.out] at d25
              simp only [hFrg, d13, d20, d25]
              clear d13 d20 d25
              refine .inl ⟨rfl, ?_⟩
              unfold Reg.upon
              have hk := Hrgk.out 26 Lq wq  hh.cls
              have hx := Hrgx.out wq
              have he : Erg 26 (.bool false) wq := by rw [Hrge26.out]
              have HK := Lib.hid (And.intro hk (And.intro he hx))
              clear hk hx he
              go_simp
              exact HK.out
            · intro Lq wq xq hh
              have d13 : Erg 13 (xq 13) wq := hh.val 13 (by kernel_rfl) (by kernel_rfl)
              rw [Hrge13.out] at d13
              have d26 : Erg 26 (xq 26) wq := hh.val 26 (by kernel_rfl) (by kernel_rfl)
              rw [Hrge26.out] at d26
              simp only [hFrg, d13, d26]
              clear d13 d26
              refine .inl ⟨rfl, ?_⟩
              unfold Reg.upon
              have hk := Hrgk.out 27 Lq wq  hh.cls
              have hx := Hrgx.out wq
              have he : Erg 27 (.bool false) wq := by rw [Hrge27.out]
              have HK := Lib.hid (And.intro hk (And.intro he hx))
              clear hk hx he
              go_simp
              exact HK.out
            · intro Lq wq xq hh
              have d27 : Erg 27 (xq 27) wq := hh.val 27 (by kernel_rfl) (by kernel_rfl)
              rw [Hrge27.out] at d27
              simp only [hFrg, d27]
              clear d27
              refine .inl ⟨rfl, ?_⟩
              unfold Reg.upon
              have hk := Hrgk.out 28 Lq wq  hh.cls
              have hx := Hrgx.out wq
              have he : Erg 28 (.bool false) wq := by rw [Hrge28.out]
              have HK := Lib.hid (And.intro hk (And.intro he hx))
              clear hk hx he
              go_simp
              exact HK.out
            · intro Lq wq xq hh
              have d28 : Erg 28 (xq 28) wq := hh.val 28 (by kernel_rfl) (by kernel_rfl)
              rw [Hrge28.out] at d28
              simp only [hFrg, d28]
              clear d28
              refine .inl ⟨rfl, ?_⟩
              unfold Reg.upon
              have hk := Hrgk.out 29 Lq wq  hh.cls
              have hx := Hrgx.out wq
              have he : Erg 29 (.slice fo M.length fc) wq := by rw [Hrge29.out]
              have HK := Lib.hid (And.intro hk (And.intro he hx))
              clear hk hx he
              go_simp
              exact HK.out
            · intro Lq wq xq hh
              have d28 : Erg 28 (xq 28) wq := hh.val 28 (by kernel_rfl) (by kernel_rfl)
              rw [Hrge28.out] at d28
              simp only [hFrg, d28]
              clear d28
              refine .inl ⟨rfl, ?_⟩
              unfold Reg.upon
              have hk := Hrgk.out 30 Lq wq  hh.cls
              have hx := Hrgx.out wq
              have he : Erg 30 (.slice (some ⟨b, off, none⟩) T.length cap) wq := by rw [Hrge30.out]
              have HK := Lib.hid (And.intro hk (And.intro he hx))
              clear hk hx he
              go_simp
              exact HK.out
            · intro Lq wq xq hh
              have d28 : Erg 28 (xq 28) wq := hh.val 28 (by kernel_rfl) (by kernel_rfl)
              rw [Hrge28.out] at d28
              simp only [hFrg, d28]
              clear d28
              refine .inl ⟨rfl, ?_⟩
              unfold Reg.upon
              have hk := Hrgk.out 31 Lq wq  hh.cls
              have hx := Hrgx.out wq
              have he : Erg 31 (.int .i64 k) wq := by rw [Hrge31.out]
              have HK := Lib.hid (And.intro hk (And.intro he hx))
              clear hk hx he
              go_simp
              exact HK.out
            · intro Lq wq xq hh
              have d28 : Erg 28 (xq 28) wq := hh.val 28 (by kernel_rfl) (by kernel_rfl)
              rw [Hrge28.out] at d28
              have d30 : Erg 30 (xq 30) wq := hh.val 30 (by kernel_rfl) (by kernel_rfl)
              rw [Hrge30.out] at d30
              have d31 : Erg 31 (xq 31) wq := hh.val 31 (by kernel_rfl) (by kernel_rfl)
              rw [Hrge31.out] at d31
              simp only [hFrg, d28, d30, d31]
              clear d28 d30 d31
              refine .inl ⟨rfl, ?_⟩
              unfold Reg.upon
              have hk := Hrgk.out 32 Lq wq  hh.cls
              have hx := Hrgx.out wq
              have he : Erg 32 (.pointer (some ⟨b, off + k * 3, none⟩)) wq := by rw [Hrge32.out]
              have HK := Lib.hid (And.intro hk (And.intro he hx))
              clear hk hx he
              go_simp
              exact HK.out
            · intro Lq wq xq hh
              have d28 : Erg 28 (xq 28) wq := hh.val 28 (by kernel_rfl) (by kernel_rfl)
              rw [Hrge28.out] at d28
              have d32 : Erg 32 (xq 32) wq := hh.val 32 (by kernel_rfl) (by kernel_rfl)
              rw [Hrge32.out] at d32
              simp only [hFrg, d28, d32]
              clear d28 d32
              refine .inl ⟨rfl, ?_⟩
              unfold Reg.upon
              have hk := Hrgk.out 33 Lq wq  hh.cls
              have hx := Hrgx.out wq
              have he : Erg 33 (.pointer (some ⟨b, off + k * 3 + 1, none⟩)) wq := by rw [Hrge33.out]
              have HK := Lib.hid (And.intro hk (And.intro he hx))
              clear hk hx he
              go_simp
              exact HK.out
            · intro Lq wq xq hh
              have d28 : Erg 28 (xq 28) wq := hh.val 28 (by kernel_rfl) (by kernel_rfl)
              rw [Hrge28.out] at d28
              have d33 : Erg 33 (xq 33) wq := hh.val 33 (by kernel_rfl) (by kernel_rfl)
              rw [Hrge33.out] at d33
              simp only [hFrg, d28, d33]
              clear d28 d33
              refine .inl ⟨rfl, ?_⟩
              unfold Reg.upon
              have hc : Crg Lq wq := hh.cls
              rw [HrghC.out] at hc
              have hcell := (hc.cell (p := ⟨b, off + k * 3 + 1, none⟩) hb0).trans C1.out
              clear hc
              have hk := Hrgk.out 34 Lq wq  hh.cls
              have hx := Hrgx.out wq
              have he : Erg 34 (.int .i64 hi) wq := by rw [Hrge34.out]
              have HK := Lib.hid (And.intro hk (And.intro he hx))
              clear hk hx he
              go_simp
              exact HK.out
            · intro Lq wq xq hh
              have d28 : Erg 28 (xq 28) wq := hh.val 28 (by kernel_rfl) (by kernel_rfl)
              rw [Hrge28.out] at d28
              have d34 : Erg 34 (xq 34) wq := hh.val 34 (by kernel_rfl) (by kernel_rfl)
              rw [Hrge34.out] at d34
              simp only [hFrg, d28, d34]
              clear d28 d34
              refine .inl ⟨rfl, ?_⟩
              unfold Reg.upon
              have hk := Hrgk.out 35 Lq wq  hh.cls
              have hx := Hrgx.out wq
              have he : Erg 35 (.int .i64 (hi + 1)) wq := by rw [Hrge35.out]
              have HK := Lib.hid (And.intro hk (And.intro he hx))
              clear hk hx he
              go_simp
              exact HK.out
            · intro Lq wq xq hh
              have d28 : Erg 28 (xq 28) wq := hh.val 28 (by kernel_rfl) (by kernel_rfl)
              rw [Hrge28.out] at d28
              have d29 : Erg 29 (xq 29) wq := hh.val 29 (by kernel_rfl) (by kernel_rfl)
              rw [Hrge29.out] at d29
              have d35 : Erg 35 (xq 35) wq := hh.val 35 (by kernel_rfl) (by kernel_rfl)
              rw [Hrge35.out] at d35
              simp only [hFrg, d28, d29, d35]
              clear d28 d29 d35
              refine .inl ⟨rfl, ?_⟩
              unfold Reg.upon
              have hc : Crg Lq wq := hh.cls
              rw [HrghC.out] at hc
              go_simp
              refine (F3.out _ hc).mono ?_
              rintro e w2 ⟨rfl, hb⟩
              exact ⟨_, rfl, Hrgk.out 36 Lq w2  (Hrgb.out Lq wq w2 hh.cls hb), (by rw [Hrge36.out]; try rfl), Hrgxb.out wq w2 hb⟩
            · intro Lq wq xq hh
              have d28 : Erg 28 (xq 28) wq := hh.val 28 (by kernel_rfl) (by kernel_rfl)
              rw [Hrge28.out] at d28
              simp only [hFrg, d28]
              clear d28
              refine .inl ⟨rfl, ?_⟩
              unfold Reg.upon
              have hk := Hrgk.out 37 Lq wq  hh.cls
              have hx := Hrgx.out wq
              have he : Erg 37 (.slice (some ⟨b, off, none⟩) T.length cap) wq := by rw [Hrge37.out]
              have HK := Lib.hid (And.intro hk (And.intro he hx))
              clear hk hx he
              go_simp
              exact HK.out
            · intro Lq wq xq hh
              have d28 : Erg 28 (xq 28) wq := hh.val 28 (by kernel_rfl) (by kernel_rfl)
              rw [Hrge28.out] at d28
              simp only [hFrg, d28]
              clear d28
              refine .inl ⟨rfl, ?_⟩
              unfold Reg.upon
              have hk := Hrgk.out 38 Lq wq  hh.cls
              have hx := Hrgx.out wq
              have he : Erg 38 (.slice (some ⟨b, off, none⟩) T.length cap) wq := by rw [Hrge38.out]
              have HK := Lib.hid (And.intro hk (And.intro he hx))
              clear hk hx he
              go_simp
              exact HK.out
            · intro Lq wq xq hh
              have d28 : Erg 28 (xq 28) wq := hh.val 28 (by kernel_rfl) (by kernel_rfl)
              rw [Hrge28.out] at d28
              simp only [hFrg, d28]
              clear d28
              refine .inl ⟨rfl, ?_⟩
              unfold Reg.upon
              have hk := Hrgk.out 39 Lq wq  hh.cls
              have hx := Hrgx.out wq
              have he : Erg 39 (.int .i64 k) wq := by rw [Hrge39.out]
              have HK := Lib.hid (And.intro hk (And.intro he hx))
              clear hk hx he
              go_simp
              exact HK.out
            · intro Lq wq xq hh
              have d28 : Erg 28 (xq 28) wq := hh.val 28 (by kernel_rfl) (by kernel_rfl)
              rw [Hrge28.out] at d28
              have d38 : Erg 38 (xq 38) wq := hh.val 38 (by kernel_rfl) (by kernel_rfl)
              rw [Hrge38.out] at d38
              have d39 : Erg 39 (xq 39) wq := hh.val 39 (by kernel_rfl) (by kernel_rfl)
              rw [Hrge39.out] at d39
              simp only [hFrg, d28, d38, d39]
              clear d28 d38 d39
              refine .inl ⟨rfl, ?_⟩
              unfold Reg.upon
              have hk := Hrgk.out 40 Lq wq  hh.cls
              have hx := Hrgx.out wq
              have he : Erg 40 (.pointer (some ⟨b, off + k * 3, none⟩)) wq := by rw [Hrge40.out]
              have HK := Lib.hid (And.intro hk (And.intro he hx))
              clear hk hx he
              go_simp
              exact HK.out
            · intro Lq wq xq hh
              have d28 : Erg 28 (xq 28) wq := hh.val 28 (by kernel_rfl) (by kernel_rfl)
              rw [Hrge28.out] at d28
              have d40 : Erg 40 (xq 40) wq := hh.val 40 (by kernel_rfl) (by kernel_rfl)
              rw [Hrge40.out] at d40
              simp only [hFrg, d28, d40]
              clear d28 d40
              refine .inl ⟨rfl, ?_⟩
              unfold Reg.upon
              have hk := Hrgk.out 41 Lq wq  hh.cls
              have hx := Hrgx.out wq
              have he : Erg 41 (.pointer (some ⟨b, off + k * 3 + 1, none⟩)) wq := by rw [Hrge41.out]
              have HK := Lib.hid (And.intro hk (And.intro he hx))
              clear hk hx he
              go_simp
              exact HK.out
            · intro Lq wq xq hh
              have d28 : Erg 28 (xq 28) wq := hh.val 28 (by kernel_rfl) (by kernel_rfl)
              rw [Hrge28.out] at d28
              have d41 : Erg 41 (xq 41) wq := hh.val 41 (by kernel_rfl) (by kernel_rfl)
              rw [Hrge41.out] at d41
              simp only [hFrg, d28, d41]
              clear d28 d41
              refine .inl ⟨rfl, ?_⟩
              unfold Reg.upon
              have hc : Crg Lq wq := hh.cls
              rw [HrghC.out] at hc
              have hcell := (hc.cell (p := ⟨b, off + k * 3 + 1, none⟩) hb0).trans C1.out
              clear hc
              have hk := Hrgk.out 42 Lq wq  hh.cls
              have hx := Hrgx.out wq
              have he : Erg 42 (.int .i64 hi) wq := by rw [Hrge42.out]
              have HK := Lib.hid (And.intro hk (And.intro he hx))
              clear hk hx he
              go_simp
              exact HK.out
            · intro Lq wq xq hh
              have d28 : Erg 28 (xq 28) wq := hh.val 28 (by kernel_rfl) (by kernel_rfl)
              rw [Hrge28.out] at d28
              have d42 : Erg 42 (xq 42) wq := hh.val 42 (by kernel_rfl) (by kernel_rfl)
              rw [Hrge42.out] at d42
              simp only [hFrg, d28, d42]
              clear d28 d42
              refine .inl ⟨rfl, ?_⟩
              unfold Reg.upon
              have hk := Hrgk.out 43 Lq wq  hh.cls
              have hx := Hrgx.out wq
              have he : Erg 43 (.int .i64 (hi + 1)) wq := by rw [Hrge43.out]
              have HK := Lib.hid (And.intro hk (And.intro he hx))
              clear hk hx he
              go_simp
              exact HK.out
            · intro Lq wq xq hh
              have d28 : Erg 28 (xq 28) wq := hh.val 28 (by kernel_rfl) (by kernel_rfl)
              rw [Hrge28.out] at d28
              have d37 : Erg 37 (xq 37) wq := hh.val 37 (by kernel_rfl) (by kernel_rfl)
              rw [Hrge37.out] at d37
              have d43 : Erg 43 (xq 43) wq := hh.val 43 (by kernel_rfl) (by kernel_rfl)
              rw [Hrge43.out] at d43
              simp only [hFrg, d28, d37, d43]
              clear d28 d37 d43
              refine .inl ⟨rfl, ?_⟩
              unfold Reg.upon
              have hc : Crg Lq wq := hh.cls
              rw [HrghC.out] at hc
              go_simp
              refine (F4.out _ hc).mono ?_
              rintro e w2 ⟨rfl, hb⟩
              exact ⟨_, rfl, Hrgk.out 44 Lq w2  (Hrgb.out Lq wq w2 hh.cls hb), (by rw [Hrge44.out]; try rfl), Hrgxb.out wq w2 hb⟩
            · intro Lq wq xq hh
              have d28 : Erg 28 (xq 28) wq := hh.val 28 (by kernel_rfl) (by kernel_rfl)
              rw [Hrge28.out] at d28
              have d36 : Erg 36 (xq 36) wq := hh.val 36 (by kernel_rfl) (by kernel_rfl)
              rw [Hrge36.out] at d36
              have d44 : Erg 44 (xq 44) wq := hh.val 44 (by kernel_rfl) (by kernel_rfl)
              rw [Hrge44.out] at d44
              simp only [hFrg, d28, d36, d44]
              clear d28 d36 d44
              refine .inl ⟨rfl, ?_⟩
              unfold Reg.upon
              have hk := Hrgk.out 45 Lq wq  hh.cls
              have hx := Hrgx.out wq
              have he : Erg 45 (.bool false) wq := by rw [Hrge45.out]
              have HK := Lib.hid (And.intro hk (And.intro he hx))
              clear hk hx he
              go_simp
              exact HK.out
            · intro Lq wq xq hh
              have d28 : Erg 28 (xq 28) wq := hh.val 28 (by kernel_rfl) (by kernel_rfl)
              rw [Hrge28.out] at d28
              have d45 : Erg 45 (xq 45) wq := hh.val 45 (by kernel_rfl) (by kernel_rfl)
              rw [Hrge45.out] at d45
              simp only [hFrg, d28, d45]
              clear d28 d45
              refine .inl ⟨rfl, ?_⟩
              unfold Reg.upon
              have hk := Hrgk.out 46 Lq wq  hh.cls
              have hx := Hrgx.out wq
              have he : Erg 46 (.bool false) wq := by rw [Hrge46.out]
              have HK := Lib.hid (And.intro hk (And.intro he hx))
              clear hk hx he
              go_simp
              exact HK.out
          intro xq wrg hcrg hvrg
          rw [HrghC.out] at hcrg
          simp only [hFrg]
          have vrg46 : Erg 46 (xq 46) wrg := hvrg 46 (by decide)
          rw [Hrge46.out] at vrg46
          rw [vrg46]
          clear hvrg hFrg Hrgk Hrgx Hrgst Hrgc HrghC HrghX Hrgb Hrgxb Hrge0 Hrge1 Hrge2 Hrge3 Hrge4 Hrge5 Hrge6 Hrge7 Hrge8 Hrge9 Hrge10 Hrge11 Hrge12 Hrge13 Hrge14 Hrge15 Hrge16 Hrge17 Hrge18 Hrge19 Hrge20 Hrge21 Hrge22 Hrge23 Hrge24 Hrge25 Hrge26 Hrge27 Hrge28 Hrge29 Hrge30 Hrge31 Hrge32 Hrge33 Hrge34 Hrge35 Hrge36 Hrge37 Hrge38 Hrge39 Hrge40 Hrge41 Hrge42 Hrge43 Hrge44 Hrge45 Hrge46
          have hb9 := hcrg
          clear hcrg
          go_wp2
          go_roundw
          case rel => exact ⟨k + 1, by omega, by go_num, hb9⟩
          case measure => simp [intOf] <;> omega
        · obtain rfl : k = T.length := by omega
          have hb := HW.out.trans (hbw.mono HW.out.size)
          go_wp2
          go_ret
          exact ⟨(ret_eq (by first | rfl | (simp <;> omega))), hb⟩
set_option maxRecDepth 100000 in
theorem walk {H : Type} {enc : TypeId × Value → H} (W : World) {base : Nat} (v : Value) {d : DataW H} {p : List MemPlace} (hv : Value.okWide Try.prog W .any base 55 v) (h : DataW.Trod enc Try.prog W 0 (fun _ => true) true 55 v d p) (n : Int) (wn : (Lit.int .i64 n).wf = true) :
    Calls Try.prog 10 #[v, .int .i64 n] W (Yes W) := by
  obtain ⟨T, hh, _, _⟩ := open_spans hv h
  exact walkH W v T n hh

set_option maxRecDepth 100000 in
theorem lifted (os : Os) (started : os.Started) (H : Type) (enc : TypeId × Value → H) :
    ReturnsInHanded {} Try.checked os 10 .any (Rows.spansFewestSpec.pre6 enc Try.prog Try.f10 Rows.spansFewestRow.domain false) (Rows.spansFewestSpec.post enc Try.prog Try.f10 false true false false) := by
  refine law_frame_plain (C := Try.checked) (tb := 4) (by kernel_rfl) started (by kernel_rfl) Try.func10 (by kernel_rfl) (by kernel_rfl) Try.underlying4 rfl
    (by rw [Try.params10]; intro t ht; simp at ht; rcases ht with rfl | rfl <;> exact ⟨by kernel_rfl, of_decide_eq_true (by kernel_rfl)⟩)
    (by rw [Try.params10]; intro ds hd; match ds, hd with | [_, _], _ => rfl)
    (ChangeSpec.witness6 (enc := enc) (C := Try.checked) false ⟨#[], #[.slice none 0 0, .int .i64 0], []⟩ 8 (by kernel_rfl) (by kernel_rfl) (by kernel_rfl) (by kernel_rfl)) ?_
  intro W base args ds before hval hA
  rw [Try.params10] at hA hval
  obtain ⟨v0, vs0, d0, ds0, p0, q0, hargs, rfl, rfl, h0, r0⟩ := trodAll_cons hA
  obtain ⟨v1, vs1, d1, ds1, p1, q1, rfl, rfl, rfl, h1, r1⟩ := trodAll_cons r0
  obtain ⟨rfl, rfl, rfl⟩ := trodAll_nil r1
  obtain rfl : args = #[v0, v1] := by cases args; simp_all
  obtain ⟨x1, rfl, rfl, rfl, wx1⟩ := open_int Try.underlying3 (hval 1 3 v1 rfl rfl) h1
  exact walk W v0 (hval 0 55 v0 rfl rfl) h0 x1 wx1

theorem proved : Rows.SpansFewestSaid :=
  OpenClaim.holds_of_wide 10 Try.f10 rfl rfl rfl rfl rfl rfl rfl ⟨rfl, rfl, rfl, rfl, rfl⟩ rfl rfl rfl rfl rfl (by kernel_rfl) Try.func10 (by kernel_rfl)
    (of_decide_eq_true (by kernel_rfl)) (by unfold Func.isWrapper; first | (rw [if_pos (by decide +kernel)]; kernel_rfl) | (rw [if_neg (by decide +kernel)]; exact ⟨rfl, rfl⟩))
    (fun os started H enc _ => lifted os started H enc)
#print axioms proved

end Go.Proofs.Ytmfoldohmbaikaa.lawSpansFewest
