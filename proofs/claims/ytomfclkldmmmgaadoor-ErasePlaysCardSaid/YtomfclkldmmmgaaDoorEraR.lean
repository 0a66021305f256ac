/- The reference's Range and Act. -/
import Derived.Test.YtomfclkldmmmgaaDoorEraM
import Derived.Test.YtomfclkldmmmgaaDoorRowR
import Derived.Test.YtomfclkldmmmgaaDoorCellO
import Derived.Lib.MinMax
namespace Go.Proofs.YtomfclkldmmmgaaDoor
open Go.RowKit Go.ChangeShapes Go.WideShapes
def Tup (Z : Zone) (w : World) (L' : List Cl) (b : Bool) (e : Ending) (w' : World) : Prop := ∃ v', e = .returned (.tuple #[v', .bool b]) ∧ HeldE cellE Z w' v' L' ∧ Below w.heap.size w w'
set_option maxRecDepth 100000 in
set_option maxHeartbeats 3000000 in
theorem rfrange_any (Z : Zone) (v : Value) (L : List Cl) (wrap : Bool) (f t : Int) (w : World) (hZ : ∀ b, w.heap.size ≤ b → Z b) (hv : HeldE cellE Z w v L) (hl : L.length ≤ 1000000) :
    Calls Tryd.prog 87 #[v, .bool wrap, .int .i64 f, .int .i64 t] w (Tup Z w (eraL L f t) (eraW L wrap f t)) := by
  obtain ⟨ao, ca, rfl⟩ := hv.len
  have HV := Lib.hid hv
  clear hv
  by_cases hc : max f 0 < min t L.length
  · obtain ⟨a, q, m, e1, e2, hq, hm, hle, e3, e4⟩ := era_parts hc
    rw [e3, e4]
    have g1 : min f (L.length : Int) = (a : Int) ∨ (min f (L.length : Int) < 0 ∧ a = 0) := by omega
    obtain ⟨F, hF⟩ : ∃ F, min f (L.length : Int) = F := ⟨_, rfl⟩
    have hF0 : max 0 F = (a : Int) := by omega
    have hT0 : max 0 (q : Int) = (q : Int) := by omega
    have hd : decide ((q : Int) ≤ (a : Int)) = false := by simp; omega
    have hdn : decide (q ≤ a) = false := by simp; omega
    have hs : IntKind.i64.wrap ((q : Int) - a) = (m : Int) := by rw [IntKind.wrap_i64]; omega
    obtain ⟨i0, hi, hz0, hz1, hz2⟩ := info_parts info_cell
    have HI := Lib.hid (And.intro hi (And.intro hz0 (And.intro hz1 hz2)))
    have HZ := Lib.hid hZ
    clear e1 e3 e4 hc g1 hq hi hz0 hz1 hz2 hZ
    go_enter Tryd.func87, Tryd.ntmps87
    go_wp2_with (at_make; refine wpList_make_full w rfl (.tmp 30) (.tmp 30) 22 rfl w.heap.size 27 i0 (.agg #[.int .i64 0, .slice none 0 0]) 2 Tryd.underlying22 HI.out.1 HI.out.2.1 HI.out.2.2.1 .i64 .i64 _ _ m rfl rfl rfl rfl (by rw [HI.out.2.2.2]; omega) (by unfold maxLen; omega) (Nat.le_refl _) ?_)
    intro w3 hown3 hg3
    have b3 : Below w.heap.size w w3 := (Below.refl _ _).grown hg3 (Nat.le_refl _) (by intro k hk; cases hk)
    have ho3 := blank_own (Z := Z) hown3
    have HP := Lib.hid (rfpaint_any Z _ _ L (List.replicate m zc) wrap a w3 (fun b hb => HZ.out b (Nat.le_trans b3.size hb)) (HV.out.below b3) (ho3.held (fun b hb _ => HZ.out b hb)) (by omega) hl (by rw [List.length_replicate]; exact hle))
    have HB3 := Lib.hid b3
    clear hown3 hg3 b3 ho3
    go_wp2_with fail
    refine HP.out.mono ?_
    rintro e w4 ⟨v4, rfl, ho4, b4⟩
    have HO := Lib.hid (ho4.held (fun b hb _ => HZ.out b (Nat.le_trans HB3.out.size hb)))
    have HB4 := Lib.hid (HB3.out.trans (b4.mono HB3.out.size))
    clear ho4 b4
    go_wp2
    go_ret2
    exact ⟨_, rfl, HO.out, HB4.out⟩
  · obtain ⟨e3, e4⟩ := era_not hc
    rw [e3, e4]
    obtain ⟨F, hF⟩ : ∃ F, min f (L.length : Int) = F := ⟨_, rfl⟩
    obtain ⟨T, hT⟩ : ∃ T, min t (L.length : Int) = T := ⟨_, rfl⟩
    obtain ⟨F2, hF2⟩ : ∃ F2, max 0 F = F2 := ⟨_, rfl⟩
    obtain ⟨T2, hT2⟩ : ∃ T2, max 0 T = T2 := ⟨_, rfl⟩
    have hd : decide (T2 ≤ F2) = true := by simp; omega
    clear e3 e4 hc hZ
    go_enter Tryd.func87, Tryd.ntmps87
    go_wp2
    go_ret2
    exact ⟨_, rfl, HV.out, Below.refl _ _⟩
set_option maxRecDepth 100000 in
set_option maxHeartbeats 4000000 in
theorem rfact_any (Z : Zone) (v : Value) (L : List Cl) (wrap : Bool) (k a b : Int) (w : World) (hZ : ∀ b, w.heap.size ≤ b → Z b) (hv : HeldE cellE Z w v L) (hl : L.length ≤ 1000000) :
    Calls Tryd.prog 37 #[v, .bool wrap, .int .i64 k, .int .i64 a, .int .i64 b] w (Tup Z w (actL L wrap k a b).1 (actL L wrap k a b).2) := by
  have HR := Lib.hid (fun f t => rfrange_any Z v L wrap f t w hZ hv hl)
  obtain ⟨ao, ca, rfl⟩ := hv.len
  have HV := Lib.hid hv
  clear hv hZ
  unfold actL
  by_cases k0 : k = 0
  · subst k0
    rw [if_pos rfl]
    go_enter Tryd.func37, Tryd.ntmps37
    go_wp2_with fail
    refine (HR.out _ _).mono ?_
    rintro e w1 ⟨v1, rfl, h1, b1⟩
    go_wp2
    go_ret2
    exact ⟨_, rfl, h1, b1⟩
  rw [if_neg k0]
  have d0 : (k == 0) = false := by rw [beq_eq_false_iff_ne]; exact k0
  by_cases k1 : k = 1
  · subst k1
    rw [if_pos rfl]
    clear k0 d0
    by_cases h0 : a < 0
    · rw [if_pos h0]
      have hd : decide (a < 0) = true := by simp; omega
      go_enter Tryd.func37, Tryd.ntmps37
      go_wp2
      go_ret2
      exact ⟨_, rfl, HV.out, Below.refl _ _⟩
    · rw [if_neg h0]
      have hd : decide (a < 0) = false := by simp; omega
      obtain ⟨M, hM⟩ : ∃ M, min a (L.length : Int) = M := ⟨_, rfl⟩
      rw [hM]
      have hw1 : IntKind.i64.wrap (M + 1) = M + 1 := by rw [IntKind.wrap_i64]; omega
      go_enter Tryd.func37, Tryd.ntmps37
      go_wp2_with fail
      refine (HR.out _ _).mono ?_
      rintro e w1 ⟨v1, rfl, h1, b1⟩
      go_wp2
      go_ret2
      exact ⟨_, rfl, h1, b1⟩
  rw [if_neg k1]
  have d1 : (k == 1) = false := by rw [beq_eq_false_iff_ne]; exact k1
  by_cases k2 : k = 2
  · subst k2
    rw [if_pos rfl]
    clear k0 d0 k1 d1
    go_enter Tryd.func37, Tryd.ntmps37
    go_wp2_with fail
    refine (HR.out _ _).mono ?_
    rintro e w1 ⟨v1, rfl, h1, b1⟩
    go_wp2
    go_ret2
    exact ⟨_, rfl, h1, b1⟩
  rw [if_neg k2]
  have d2 : (k == 2) = false := by rw [beq_eq_false_iff_ne]; exact k2
  by_cases k3 : k = 3
  · subst k3
    rw [if_pos rfl]
    clear k0 d0 k1 d1 k2 d2
    go_enter Tryd.func37, Tryd.ntmps37
    go_wp2_with fail
    refine (HR.out _ _).mono ?_
    rintro e w1 ⟨v1, rfl, h1, b1⟩
    go_wp2
    go_ret2
    exact ⟨_, rfl, h1, b1⟩
  rw [if_neg k3]
  have d3 : (k == 3) = false := by rw [beq_eq_false_iff_ne]; exact k3
  clear k0 k1 k2 k3
  by_cases hbad : a < 0 ∨ b < 1 ∨ (L.length : Int) ≤ a
  · rw [if_pos hbad]
    by_cases h0 : a < 0
    · have hd : decide (a < 0) = true := by simp; omega
      clear hbad
      go_enter Tryd.func37, Tryd.ntmps37
      go_wp2
      go_ret2
      exact ⟨_, rfl, HV.out, Below.refl _ _⟩
    · have hd : decide (a < 0) = false := by simp; omega
      by_cases h1 : b < 1
      · have hd1 : decide (b < 1) = true := by simp; omega
        clear hbad
        go_enter Tryd.func37, Tryd.ntmps37
        go_wp2
        go_ret2
        exact ⟨_, rfl, HV.out, Below.refl _ _⟩
      · have hd1 : decide (b < 1) = false := by simp; omega
        have hd2 : decide ((L.length : Int) ≤ a) = true := by simp; omega
        clear hbad
        go_enter Tryd.func37, Tryd.ntmps37
        go_wp2
        go_ret2
        exact ⟨_, rfl, HV.out, Below.refl _ _⟩
  · rw [if_neg hbad]
    have hd : decide (a < 0) = false := by simp; omega
    have hd1 : decide (b < 1) = false := by simp; omega
    have hd2 : decide ((L.length : Int) ≤ a) = false := by simp; omega
    obtain ⟨M, hM⟩ : ∃ M, min b (L.length : Int) = M := ⟨_, rfl⟩
    rw [hM]
    have hw1 : IntKind.i64.wrap (a + M) = a + M := by rw [IntKind.wrap_i64]; omega
    clear hbad
    go_enter Tryd.func37, Tryd.ntmps37
    go_wp2_with fail
    refine (HR.out _ _).mono ?_
    rintro e w1 ⟨v1, rfl, h1, b1⟩
    go_wp2
    go_ret2
    exact ⟨_, rfl, h1, b1⟩
end Go.Proofs.YtomfclkldmmmgaaDoor
