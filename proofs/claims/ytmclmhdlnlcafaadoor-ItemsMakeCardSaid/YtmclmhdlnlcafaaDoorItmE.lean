/- items: Cells of items of which one is not right. -/
import Derived.Test.YtmclmhdlnlcafaaDoorItmD
import Derived.Test.YtmclmhdlnlcafaaDoorErfS
namespace Go.Proofs.YtmclmhdlnlcafaaDoor
open Go.RowKit Go.ChangeShapes Go.WideShapes
set_option maxRecDepth 100000 in
set_option maxHeartbeats 3000000 in
theorem icells_bad (sa : Nat → Addr) (Z : Zone) (v : Value) (L : List Cl) (w : World) (hsa : F.Sents w sa) (hv : HeldE cellE Z w v L) (hl : L.length ≤ 1000000) (n : Nat) (hn : n < L.length) (hr : ∀ k, k < n → rightI (L.getD k zc) = true) (hb : rightI (L.getD n zc) = false) : Calls Tryd.prog 31 #[v] w (fun e w' => ∃ u, e = .returned (.tuple #[.slice none 0 0, u]) ∧ F.IsErr sa w' u [(n : Int)] 5 ∧ Below w.heap.size w w') := by
  have HRT := Lib.hid hr
  have HRB := Lib.hid hb
  have HSA := Lib.hid hsa
  have hv := hv.lower
  obtain ⟨ao, cap, rfl⟩ := hv.len
  obtain ⟨_, _, hc⟩ := cells_at hv
  have HC := Lib.hid hc
  clear hc hv hr hb hsa
  go_enter Tryd.func31, Tryd.ntmps31
  go_wp2
  go_loopw [11] (fun i wr => ∃ k : Nat, k ≤ n ∧ i = .int .i64 k ∧ Below w.heap.size w wr) (fun i _ => L.length - (intOf i).toNat)
  case atStart => exact ⟨0, Nat.zero_le _, rfl, Below.refl _ _⟩
  case round =>
    obtain ⟨k, hk, rfl, hbw⟩ := hrel
    have HBW := Lib.hid hbw
    clear hbw
    have hlt : k < L.length := by omega
    obtain ⟨b, off, tv, rfl, hb, _, c0, c1, hh⟩ := HC.out k hlt
    have c0 := (HBW.out.cell (p := ⟨b, off + k * 2, none⟩) hb).trans c0
    have c1 := (HBW.out.cell (p := ⟨b, off + k * 2 + 1, none⟩) hb).trans c1
    obtain ⟨y, hy⟩ : ∃ y, y = L.getD k zc := ⟨_, rfl⟩
    have HY := Lib.hid hy
    rw [← hy] at c0 hh
    obtain ⟨K, T⟩ := y
    simp only at c0 hh
    have htl := hh.max
    obtain ⟨ta, tc, rfl⟩ := hh.len
    obtain ⟨W1, hW1⟩ : ∃ W1, W1 = wr.alloc (.cells #[.int .i64 K, .slice ta T.length tc] 55) := ⟨_, rfl⟩
    have hb1 : Below wr.heap.size wr W1 := by rw [hW1]; exact (Below.refl _ _).alloc (Nat.le_refl _) _
    have HB1 := Lib.hid (HBW.out.trans (hb1.mono HBW.out.size))
    have hq := iright_any K _ T W1 (hh.below HB1.out).ints htl
    subst hW1
    clear hy hh hb1 hb
    by_cases hkn : k < n
    · rw [HY.out, HRT.out k hkn] at hq
      have HQ := Lib.hid hq
      clear hq
      go_wp2_with fail
      refine HQ.out.mono ?_
      rintro e w2 ⟨rfl, b2⟩
      have HB2 := Lib.hid (HB1.out.trans (b2.mono HB1.out.size))
      clear b2 HQ
      go_wp2
      go_roundw
      case rel => exact ⟨k + 1, by omega, by go_num, HB2.out⟩
      case measure => simp [intOf] <;> omega
    · obtain rfl : k = n := by omega
      rw [HY.out, HRB.out] at hq
      have HQ := Lib.hid hq
      clear hq
      go_wp2_with fail
      refine HQ.out.mono ?_
      rintro e w2 ⟨rfl, b2⟩
      have HB2 := Lib.hid (HB1.out.trans (b2.mono HB1.out.size))
      have c4 := (HSA.out.below HB2.out).cell 4 (by decide)
      simp only [F.glob] at c4
      clear b2 HQ c0 c1
      go_wp2_with fail
      refine (F.wrong_any w2 (k : Int) _ _).mono ?_
      rintro e w3 ⟨rfl, rfl⟩
      have HB3 := Lib.hid (HB2.out.alloc HB2.out.size (.cells #[.int .i64 k, .iface 154 (.pointer (some (sa 4)))] 103))
      have hH := Has.new w2 [.int .i64 k, .iface 154 (.pointer (some (sa 4)))] 103
      have HE := Lib.hid (F.IsErr.fault _ 0 _ _ [] 5 (hH.cell 0 _ rfl) (hH.cell 1 _ rfl) (F.IsErr.sent (sa := sa) 4 (by decide)))
      clear hH c4
      go_wp2
      go_ret2
      exact ⟨_, rfl, HE.out, HB3.out⟩
end Go.Proofs.YtmclmhdlnlcafaaDoor
