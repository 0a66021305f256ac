/- The reference's Sound. -/
import Derived.Test.YtoeggiplcaegoaaGreatDoorCellR
namespace Go.Proofs.YtoeggiplcaegoaaGreatDoor
open Go.RowKit Go.ChangeShapes Go.WideShapes
set_option maxRecDepth 100000 in
set_option maxHeartbeats 1600000 in
theorem rsound_any (Z : Zone) (v : Value) (L : List Cl) (w : World) (hv : HeldE cellE Z w v L) : Calls Tryz.prog 57 #[v] w (Gives w (.bool (okTo L L.length))) := by
  have hl := hv.max
  have HV := Lib.hid hv
  obtain ⟨ao, cap, rfl⟩ := hv.len
  obtain ⟨_, _, hc⟩ := cells_at hv
  have HC := Lib.hid hc
  clear hc hv
  go_enter Tryz.func57, Tryz.ntmps57
  go_wp2
  go_loopw [3] (fun i wr => ∃ k : Nat, k ≤ L.length ∧ i = .int .i64 k ∧ Go.RowKit.Hid (okTo L k = true) ∧ Below w.heap.size w wr) (fun i _ => L.length - (intOf i).toNat)
  case atStart => exact ⟨0, Nat.zero_le _, rfl, Lib.hid rfl, Below.refl _ _⟩
  case round =>
    obtain ⟨k, hk, rfl, HP, hbw⟩ := hrel
    have HBW := Lib.hid hbw
    clear hbw
    by_cases hlt : k < L.length
    · obtain ⟨b, off, tv, rfl, hb, _, c0, c1, hh⟩ := HC.out k hlt
      have htl := hh.max
      have hh := hh.ints.below HBW.out
      have hok : okTo L (k + 1) = okAt L k := by rw [okTo_succ, HP.out]; rfl
      have hbad := fun h => okTo_not (l := L) (n := L.length) hlt h
      unfold okAt at hok hbad
      have HK1 := Lib.hid (fun w2 (hb2 : Below w.heap.size w w2) => kind_any Z _ L ((k : Int) + 1) w2 (HV.out.below hb2) hl)
      have HK2 := Lib.hid (fun w2 (hb2 : Below w.heap.size w w2) => kind_any Z _ L ((k : Int) - 1) w2 (HV.out.below hb2) hl)
      obtain ⟨n1, hn1⟩ : ∃ y, y = kindAt L ((k : Int) + 1) := ⟨_, rfl⟩
      obtain ⟨n2, hn2⟩ : ∃ y, y = kindAt L ((k : Int) - 1) := ⟨_, rfl⟩
      rw [← hn1] at hok hbad HK1
      rw [← hn2] at hok hbad HK2
      obtain ⟨⟨K, T⟩, hKT⟩ : ∃ y, y = L.getD k zc := ⟨_, rfl⟩
      rw [← hKT] at c0 hh htl hok hbad
      simp only at c0 hh htl hok hbad
      have HOK := Lib.hid hok
      have HBD := Lib.hid hbad
      have HHH := Lib.hid hh
      have HCL := Lib.hid (show ∀ w2, Below w.heap.size w w2 → w2.cell? ⟨b, off + k * 2, none⟩ = some (.int .i64 K) ∧ w2.cell? ⟨b, off + k * 2 + 1, none⟩ = some tv from fun w2 h => ⟨(h.cell (p := ⟨b, off + k * 2, none⟩) hb).trans c0, (h.cell (p := ⟨b, off + k * 2 + 1, none⟩) hb).trans c1⟩)
      clear hKT hok hbad hn1 hn2 hh HP c0 c1 hb
      obtain ⟨tz9, tc, rfl, _⟩ := HHH.out.view
      have HR := Lib.hid (rright_any K _ T wr HHH.out htl)
      have w1 : IntKind.i64.wrap ((k : Int) + 1) = (k : Int) + 1 := by rw [IntKind.wrap_i64]; omega
      obtain ⟨c0, c1⟩ := HCL.out wr HBW.out
      cases hr : rightB (K, T) with
      | false =>
        rw [hr] at HR HBD
        go_wp2_with fail
        refine HR.out.mono ?_
        rintro e w2 ⟨rfl, hb2⟩
        have hb3 := HBW.out.trans (hb2.mono HBW.out.size)
        clear c0 c1
        go_wp2
        go_ret
        exact ⟨ret_eq (by rw [HBD.out (by simp)]; try rfl), hb3⟩
      | true =>
        rw [hr] at HR HBD HOK
        have hkc : (K = 2 ∧ (K == 3) = false ∧ (K == 2) = true ∧ ((n1 = 3 ∧ (n1 != 3) = false) ∨ (n1 != 3) = true)) ∨ (K = 3 ∧ (K == 2) = false ∧ (K == 3) = true ∧ ((n2 = 2 ∧ (n2 != 2) = false) ∨ (n2 != 2) = true)) ∨ ((K == 3) = false ∧ (K == 2) = false) := by
          by_cases h2 : K = 2
          · exact .inl ⟨h2, by simp; omega, by simpa using h2, by by_cases h : n1 = 3 <;> simp [h]⟩
          · by_cases h3 : K = 3
            · exact .inr (.inl ⟨h3, by simp; omega, by simpa using h3, by by_cases h : n2 = 2 <;> simp [h]⟩)
            · exact .inr (.inr ⟨by simpa using h3, by simpa using h2⟩)
        rcases hkc with ⟨rfl, h3, h2, ⟨rfl, h1⟩ | h1⟩ | ⟨rfl, h2, h3, ⟨rfl, h1⟩ | h1⟩ | ⟨h3, h2⟩
        · rw [h3, h2, h1] at HOK
          go_wp2_with fail
          refine HR.out.mono ?_
          rintro e w2 ⟨rfl, hb2⟩
          have hb3 := HBW.out.trans (hb2.mono HBW.out.size)
          clear c0 c1 hb2
          obtain ⟨c0, c1⟩ := HCL.out w2 hb3
          go_wp2_with fail
          refine (HK1.out w2 hb3).mono ?_
          rintro e w3 ⟨rfl, hb4⟩
          have hb5 := hb3.trans (hb4.mono hb3.size)
          clear c0 c1 hb4
          obtain ⟨c0, c1⟩ := HCL.out w3 hb5
          go_wp2
          go_roundw
          case rel => exact ⟨k + 1, by omega, by go_num, Lib.hid (by rw [HOK.out]; rfl), hb5⟩
          case measure => simp [intOf] <;> omega
        · rw [h3, h2, h1] at HBD
          go_wp2_with fail
          refine HR.out.mono ?_
          rintro e w2 ⟨rfl, hb2⟩
          have hb3 := HBW.out.trans (hb2.mono HBW.out.size)
          clear c0 c1 hb2
          obtain ⟨c0, c1⟩ := HCL.out w2 hb3
          go_wp2_with fail
          refine (HK1.out w2 hb3).mono ?_
          rintro e w3 ⟨rfl, hb4⟩
          have hb5 := hb3.trans (hb4.mono hb3.size)
          clear c0 c1 hb4
          go_wp2
          go_ret
          exact ⟨ret_eq (by rw [HBD.out rfl]; try rfl), hb5⟩
        · rw [h3, h2, h1] at HOK
          go_wp2_with fail
          refine HR.out.mono ?_
          rintro e w2 ⟨rfl, hb2⟩
          have hb3 := HBW.out.trans (hb2.mono HBW.out.size)
          clear c0 c1 hb2
          obtain ⟨c0, c1⟩ := HCL.out w2 hb3
          go_wp2_with fail
          refine (HK2.out w2 hb3).mono ?_
          rintro e w3 ⟨rfl, hb4⟩
          have hb5 := hb3.trans (hb4.mono hb3.size)
          clear c0 c1 hb4
          go_wp2
          go_roundw
          case rel => exact ⟨k + 1, by omega, by go_num, Lib.hid (by rw [HOK.out]; rfl), hb5⟩
          case measure => simp [intOf] <;> omega
        · rw [h3, h2, h1] at HBD
          go_wp2_with fail
          refine HR.out.mono ?_
          rintro e w2 ⟨rfl, hb2⟩
          have hb3 := HBW.out.trans (hb2.mono HBW.out.size)
          clear c0 c1 hb2
          obtain ⟨c0, c1⟩ := HCL.out w2 hb3
          go_wp2_with fail
          refine (HK2.out w2 hb3).mono ?_
          rintro e w3 ⟨rfl, hb4⟩
          have hb5 := hb3.trans (hb4.mono hb3.size)
          clear c0 c1 hb4
          go_wp2
          go_ret
          exact ⟨ret_eq (by rw [HBD.out rfl]; try rfl), hb5⟩
        · rw [h3, h2] at HOK
          go_wp2_with fail
          refine HR.out.mono ?_
          rintro e w2 ⟨rfl, hb2⟩
          have hb3 := HBW.out.trans (hb2.mono HBW.out.size)
          clear c0 c1 hb2
          obtain ⟨c0, c1⟩ := HCL.out w2 hb3
          go_wp2
          go_roundw
          case rel => exact ⟨k + 1, by omega, by go_num, Lib.hid (by rw [HOK.out]; rfl), hb3⟩
          case measure => simp [intOf] <;> omega
    · obtain rfl : k = L.length := by omega
      go_wp2
      go_ret
      exact ⟨ret_eq (by rw [HP.out]; try rfl), HBW.out⟩
end Go.Proofs.YtoeggiplcaegoaaGreatDoor
