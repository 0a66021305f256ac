/- The reference's At, Widen (25). -/
import Derived.Test.YtomfclkldmmmgaaDoorMarkE
import Derived.Test.YtomfclkldmmmgaaDoorRowR
import Derived.Test.YtomfclkldmmmgaaDoorCellP
import Derived.Test.YtomfclkldmmmgaaDoorShfR
namespace Go.Proofs.YtomfclkldmmmgaaDoor
open Go.RowKit Go.ChangeShapes Go.WideShapes
theorem rat_any (Z : Zone) (v : Value) (L : List Cl) (col : Int) (w : World) (hv : HeldE cellE Z w v L) : Calls Tryd.prog 81 #[v, .int .i64 col] w fun e w' => e = .returned (.int .i64 (clAt L col)) ∧ w = w' := by
  have hm := hv.max
  obtain ⟨ao, ca, rfl⟩ := hv.len
  obtain ⟨_, _, hc⟩ := cells_at hv
  have HC := Lib.hid hc
  clear hv hc
  by_cases h0 : col < 0
  · have HE := Lib.hid (cl_none (L := L) (.inl h0))
    have hd : decide (col < 0) = true := by simp; omega
    go_enter Tryd.func81, Tryd.ntmps81
    go_wp2
    go_ret
    exact ⟨ret_eq (by rw [HE.out]; try rfl), rfl⟩
  have hd : decide (col < 0) = false := by simp; omega
  by_cases h1 : (L.length : Int) ≤ col
  · have HE := Lib.hid (cl_none (L := L) (.inr (.inl h1)))
    have hd1 : decide ((L.length : Int) ≤ col) = true := by simp; omega
    go_enter Tryd.func81, Tryd.ntmps81
    go_wp2
    go_ret
    exact ⟨ret_eq (by rw [HE.out]; try rfl), rfl⟩
  obtain ⟨k, rfl⟩ := Int.eq_ofNat_of_zero_le (show 0 ≤ col by omega)
  have hk : k < L.length := by omega
  have hd0 : decide ((k : Int) < 0) = false := by simp
  have hd1 : decide ((L.length : Int) ≤ k) = false := by simp; omega
  have hd1n : decide (L.length ≤ k) = false := by simp; omega
  obtain ⟨b, off, tv, rfl, hb, _, c0, _, _⟩ := HC.out k hk
  have hkd : kindAt L (k : Int) = (L.getD k zc).1 := kind_nat L k
  obtain ⟨K, hK⟩ : ∃ K, K = (L.getD k zc).1 := ⟨_, rfl⟩
  rw [← hK] at c0 hkd
  by_cases k0 : K = 0
  · have HE := Lib.hid (cl_none (L := L) (col := (k : Int)) (.inr (.inr (by rw [hkd]; exact k0))))
    subst k0
    clear hK hkd
    go_enter Tryd.func81, Tryd.ntmps81
    go_wp2
    go_ret
    exact ⟨ret_eq (by rw [HE.out]; try rfl), rfl⟩
  have hk0 : (K == 0) = false := by rw [beq_eq_false_iff_ne]; exact k0
  by_cases k3 : K = 3
  · have HE := Lib.hid (cl_back hk (by rw [← hK]; exact k3))
    subst k3
    have hw : IntKind.i64.wrap ((k : Int) - 1) = (k : Int) - 1 := by rw [IntKind.wrap_i64]; omega
    clear hK hkd k0
    go_enter Tryd.func81, Tryd.ntmps81
    go_wp2
    go_ret
    exact ⟨ret_eq (by rw [HE.out]; try rfl), rfl⟩
  · have hk3 : (K == 3) = false := by rw [beq_eq_false_iff_ne]; exact k3
    have HE := Lib.hid (show clAt L (k : Int) = k by unfold clAt; rw [if_neg (by rw [hkd]; omega), if_neg (by rw [hkd]; exact k3)])
    clear hK hkd k0 k3
    go_enter Tryd.func81, Tryd.ntmps81
    go_wp2
    go_ret
    exact ⟨ret_eq (by rw [HE.out]; try rfl), rfl⟩
def Tup3 (Z : Zone) (w : World) (r : List Cl × Bool × Bool) (e : Ending) (w' : World) : Prop := ∃ v', e = .returned (.tuple #[v', .bool r.2.1, .bool r.2.2]) ∧ HeldE cellE Z w' v' r.1 ∧ Below w.heap.size w w'
set_option maxRecDepth 100000 in
set_option maxHeartbeats 2000000 in
theorem rmwid_any (Z : Zone) (v : Value) (L : List Cl) (wrap : Bool) (col : Int) (w : World) (hZ : ∀ b, w.heap.size ≤ b → Z b) (hv : HeldE cellE Z w v L) (hpos : 0 < L.length) (hl : L.length ≤ 1000000) : Calls Tryd.prog 31 #[v, .bool wrap, .int .i64 col] w (Tup3 Z w (widL L wrap col)) := by
  obtain ⟨ao, ca, rfl⟩ := hv.len
  obtain ⟨_, _, hc⟩ := cells_at hv
  have HC := Lib.hid hc
  have HV := Lib.hid hv
  have HZ := Lib.hid hZ
  clear hv hc hZ
  have hwl : IntKind.i64.wrap ((L.length : Int) - 1) = (L.length : Int) - 1 := by rw [IntKind.wrap_i64]; omega
  by_cases h0 : col < 0
  · have HE := Lib.hid (show widL L wrap col = (L, wrap, false) by unfold widL; rw [if_pos (.inl h0)])
    have hd : decide (col < 0) = true := by simp; omega
    go_enter Tryd.func31, Tryd.ntmps31
    go_wp2
    go_ret3
    rw [HE.out]
    exact ⟨_, rfl, HV.out, Below.refl _ _⟩
  have hd : decide (col < 0) = false := by simp; omega
  by_cases h1 : (L.length : Int) - 1 ≤ col
  · have HE := Lib.hid (show widL L wrap col = (L, wrap, false) by unfold widL; rw [if_pos (.inr (.inl h1))])
    have hd1 : decide ((L.length : Int) - 1 ≤ col) = true := by simp; omega
    go_enter Tryd.func31, Tryd.ntmps31
    go_wp2
    go_ret3
    rw [HE.out]
    exact ⟨_, rfl, HV.out, Below.refl _ _⟩
  obtain ⟨k, rfl⟩ := Int.eq_ofNat_of_zero_le (show 0 ≤ col by omega)
  have hk : k + 1 < L.length := by omega
  have hd0 : decide ((k : Int) < 0) = false := by simp
  have hd1 : decide ((L.length : Int) - 1 ≤ k) = false := by simp; omega
  obtain ⟨b, off, tv, rfl, hb, _, c0, c1, hh⟩ := HC.out k (by omega)
  have hkd : kindAt L (k : Int) = (L.getD k zc).1 := kind_nat L k
  have HWE := Lib.hid (show widL L wrap (k : Int) = if (L.getD k zc).1 ≠ 1 then (L, wrap, false) else (paintL L (ofC 2 (L.getD k zc).2) k, wrap && !lastHit L (ofC 2 (L.getD k zc).2) k, true) by
    unfold widL
    rw [hkd]
    by_cases hq : (L.getD k zc).1 ≠ 1
    · rw [if_pos hq, if_pos (.inr (.inr hq))]
    · rw [if_neg hq, if_neg (by omega)]
      simp)
  obtain ⟨⟨K, T⟩, hKT⟩ : ∃ y, y = L.getD k zc := ⟨_, rfl⟩
  rw [← hKT] at c0 hh HWE
  simp only at c0 hh HWE
  by_cases k1 : K = 1
  · have HE := Lib.hid (show widL L wrap (k : Int) = (paintL L (ofC 2 T) k, wrap && !lastHit L (ofC 2 T) k, true) by rw [HWE.out, if_neg (by simp [k1])])
    have HO := Lib.hid (rcof_new Z Z 2 tv T w (fun b h => HZ.out b h) hh)
    obtain ⟨tto, tcc, rfl⟩ := hh.len
    subst k1
    clear hh hKT hkd h0 h1
    go_enter Tryd.func31, Tryd.ntmps31
    go_wp2_with fail
    refine HO.out.mono ?_
    rintro e w1 ⟨v1, rfl, ho1, b1⟩
    have HP := Lib.hid (rfpaint_any Z _ _ L (ofC 2 T) wrap k w1 (fun b h => HZ.out b (Nat.le_trans b1.size h)) (HV.out.below b1) (ho1.held (fun b h _ => HZ.out b h)) (by omega) hl (by rw [ofC_len, if_pos (by decide)]; omega))
    have HB1 := Lib.hid b1
    obtain ⟨vo, vc, rfl⟩ := (ho1.held (fun b h _ => HZ.out b h)).len
    clear ho1 b1 c0 c1
    go_wp2_with fail
    refine HP.out.mono ?_
    rintro e w2 ⟨v2, rfl, ho2, b2⟩
    have HF := Lib.hid (And.intro (ho2.held (fun b h _ => HZ.out b (Nat.le_trans HB1.out.size h))) (HB1.out.trans (b2.mono HB1.out.size)))
    clear ho2 b2
    go_wp2
    go_ret3
    rw [HE.out]
    exact ⟨_, rfl, HF.out.1, HF.out.2⟩
  · have HE := Lib.hid (show widL L wrap (k : Int) = (L, wrap, false) by rw [HWE.out, if_pos k1])
    have hkb : (K != 1) = true := by simp [k1]
    have hkb2 : (K == 1) = false := by simp [k1]
    clear hh hKT hkd k1
    go_enter Tryd.func31, Tryd.ntmps31
    go_wp2
    go_ret3
    rw [HE.out]
    exact ⟨_, rfl, HV.out, Below.refl _ _⟩
end Go.Proofs.YtomfclkldmmmgaaDoor
