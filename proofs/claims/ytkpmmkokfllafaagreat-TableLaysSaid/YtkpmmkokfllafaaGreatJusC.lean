/- justify: Cut, Pad (58). -/
import Derived.Test.YtkpmmkokfllafaaGreatJusA
import Derived.Test.YtkpmmkokfllafaaGreatMeaG
import Derived.Test.YtkpmmkokfllafaaGreatMg1
import Derived.Lib.MinMax
import Derived.Deep.Cut
namespace Go.Proofs.YtkpmmkokfllafaaGreat
open Go.RowKit Go.ChangeShapes Go.WideShapes
def wc (W : Int) : Int := min (max W 0) 1024
theorem wc_bd (W : Int) : 0 ≤ wc W ∧ wc W ≤ 1024 := by unfold wc; omega
def cutC (W : Int) (xs : List Int) : List Int := xs.take (rbC xs (wc W)).1.toNat
def lackC (W : Int) (xs : List Int) : Nat := (max (wc W - colsC xs) 0).toNat
def aheadC (side : Int) (m : Nat) : Nat := if side = 1 then m else if side = 2 then m / 2 else 0
def padC (W side : Int) (xs : List Int) : List Int := List.replicate (aheadC side (lackC W xs)) 32 ++ (xs ++ List.replicate (lackC W xs - aheadC side (lackC W xs)) 32)
theorem ahead_le (side : Int) (m : Nat) : aheadC side m ≤ m := by unfold aheadC; split; omega; split <;> omega
theorem lack_le (W : Int) (xs : List Int) : lackC W xs ≤ 1024 := by have := wc_bd W; have := colsC_bd xs; unfold lackC; omega
theorem pad_len (W side : Int) (xs : List Int) : (padC W side xs).length = xs.length + lackC W xs := by
  have := ahead_le side (lackC W xs)
  unfold padC
  simp
  omega
theorem head_nat {xs : List Int} {W n u : Int} (h : HeadOK xs W n u) : ∃ k : Nat, n = (k : Int) ∧ k ≤ xs.length := by
  rcases h with ⟨_, rfl, _⟩ | ⟨_, k, hk, rfl, _⟩
  · exact ⟨0, rfl, Nat.zero_le _⟩
  · exact ⟨_, rfl, endC_le xs k hk⟩
set_option maxRecDepth 100000 in
theorem jwidth_any (W : Int) (w : World) : Calls Tryz.prog 20 #[.int .i64 W] w (fun e w' => e = .returned (.int .i64 (wc W)) ∧ w' = w) := by
  go_enter Tryz.func20, Tryz.ntmps20
  go_wp2
  go_ret
  exact ⟨(ret_eq (by first | rfl | (simp <;> omega))), rfl⟩
set_option maxRecDepth 100000 in
theorem jblanks_any (N : Nat) (w : World) (hN : N ≤ 1024) : Calls Tryz.prog 22 #[.int .i64 (N : Int)] w (CatOk w (List.replicate N 32)) := by
  have b1 := (Below.refl w.heap.size w).alloc (Nat.le_refl _) (.cells #[.int .i32 32] 21)
  have HB := Lib.hid b1
  have HR := Lib.hid (rep_any w.heap.size N _ (Has.new w [.int .i32 32] 21) hN)
  clear b1
  go_enter Tryz.func22, Tryz.ntmps22
  go_wp2_with fail
  refine HR.out.mono ?_
  rintro e w2 ⟨v2, rfl, ho, b2⟩
  have HO := Lib.hid (owns_mono ho HB.out.size)
  have HB2 := Lib.hid (HB.out.trans (b2.mono HB.out.size))
  clear ho b2
  go_wp2
  go_ret
  exact ⟨_, (ret_eq (by first | rfl | (simp <;> omega))), HO.out, HB2.out⟩
set_option maxRecDepth 100000 in
set_option maxHeartbeats 1600000 in
theorem jcut_any (Z : Zone) (v : Value) (xs : List Int) (W : Int) (w : World) (hv : HeldE (intE .i32) Z w v xs) (hn : xs.length ≤ 1000000) : Calls Tryz.prog 23 #[v, .int .i64 W] w (Cloned 21 .i32 w (cutC W xs)) := by
  obtain ⟨ao, ca, rfl, hcap, hmx, hnil, _⟩ := id hv
  have HW := Lib.hid (jwidth_any W w)
  have hwd := wc_bd W
  have HHD := Lib.hid (mhead_any _ xs (wc W) w hv.ints hn (by omega))
  have HV := Lib.hid hv
  have HDEF := Lib.hid (show cutC W xs = xs.take (rbC xs (wc W)).1.toNat from rfl)
  have HNIL := Lib.hid hnil
  have HMX := Lib.hid hmx
  obtain ⟨n, hnn⟩ : ∃ n, n = xs.length := ⟨_, rfl⟩
  have HN := Lib.hid hnn
  rw [← hnn] at HHD HV hn hcap ⊢
  obtain ⟨Wd, hWd⟩ : ∃ Wd, Wd = wc W := ⟨_, rfl⟩
  rw [← hWd] at HW HHD HDEF
  obtain ⟨CUT, hCUT⟩ : ∃ CUT, CUT = cutC W xs := ⟨_, rfl⟩
  rw [← hCUT] at HDEF ⊢
  clear hv hnn hwd hWd hnil hmx hCUT
  go_enter Tryz.func23, Tryz.ntmps23
  go_wp2_with fail
  refine HW.out.mono ?_
  rintro e w1 ⟨rfl, rfl⟩
  go_wp2_with fail
  refine HHD.out.mono ?_
  rintro e w2 ⟨p, u, rfl, ho, b2⟩
  obtain ⟨k, rfl, hk⟩ := head_nat ho
  have hk1 := (head_one ho).1
  have HCUT := Lib.hid (show CUT = xs.take k from by rw [HDEF.out, ← hk1]; simp)
  rw [← HN.out] at hk
  have HB := Lib.hid b2
  have hki : (k : Int) ≤ n := by omega
  have hkc : k ≤ ca := by omega
  have hkci : (k : Int) ≤ ca := by omega
  clear ho hk1 b2 HW HHD HDEF
  have key : ∀ a' : Option Addr, (a' = ao) → Calls Tryz.prog 27 #[.slice a' k ca] w2 (Cloned 21 .i32 w2 CUT) := by
    intro a' e
    subst e
    rw [HCUT.out]
    refine rclone_any _ _ w2 ?_ (by rw [List.length_take]; omega)
    have hp := (HV.out.below HB.out).part 0 k (Nat.zero_le _) (by rw [← HN.out]; exact hk) a' ca (fun h => ⟨h, (HNIL.out h).2⟩) (fun b' o' h _ => by rw [h]; simp) (fun a h => by rw [h]; simp) (by omega) HMX.out
    rw [List.drop_zero, Nat.sub_zero] at hp
    exact hp.ints
  have HKEY := Lib.hid key
  clear key
  cases hao : ao with
  | none =>
    subst hao
    have hca := (HNIL.out rfl)
    have hn0 : n = 0 := by rw [HN.out, hca.1]; rfl
    have hk0 : k = 0 := by omega
    have hc0 : ca = 0 := hca.2
    subst hk0 hc0
    have H9 := Lib.hid (HKEY.out none rfl)
    clear hca hn0
    go_wp2_with fail
    refine H9.out.mono ?_
    rintro e w3 ⟨v3, rfl, ho3, b3⟩
    have HO := Lib.hid (owns_mono ho3 HB.out.size)
    have HB3 := Lib.hid (HB.out.trans (b3.mono HB.out.size))
    clear ho3 b3
    go_wp2
    go_ret
    exact ⟨_, (ret_eq (by first | rfl | (simp <;> omega))), HO.out, HB3.out⟩
  | some a =>
    subst hao
    have H9 := Lib.hid (HKEY.out (some a) rfl)
    go_wp2_with fail
    refine H9.out.mono ?_
    rintro e w3 ⟨v3, rfl, ho3, b3⟩
    have HO := Lib.hid (owns_mono ho3 HB.out.size)
    have HB3 := Lib.hid (HB.out.trans (b3.mono HB.out.size))
    clear ho3 b3
    go_wp2
    go_ret
    exact ⟨_, (ret_eq (by first | rfl | (simp <;> omega))), HO.out, HB3.out⟩
set_option maxRecDepth 100000 in
set_option maxHeartbeats 2000000 in
theorem jpad_any (v : Value) (xs : List Int) (W side : Int) (w : World) (hv : Held .i32 w v xs) (hn : xs.length ≤ 100000) : Calls Tryz.prog 13 #[v, .int .i64 W, .int .i64 side] w (CatOk w (padC W side xs)) := by
  obtain ⟨ao, ca, rfl⟩ := hv.len
  have HW := Lib.hid (jwidth_any W w)
  have hwd := wc_bd W
  have HCO := Lib.hid (mcols_any _ xs w hv (by omega))
  have HV := Lib.hid hv
  have hcb := colsC_bd xs
  have hml := lack_le W xs
  have hmx : max (wc W - colsC xs) 0 = ((lackC W xs : Nat) : Int) := by unfold lackC; omega
  have hal := ahead_le side (lackC W xs)
  have HDEF := Lib.hid (show padC W side xs = [List.replicate (aheadC side (lackC W xs)) 32, xs, List.replicate (lackC W xs - aheadC side (lackC W xs)) 32].flatten from by unfold padC; simp)
  have HLEN := Lib.hid (pad_len W side xs)
  obtain ⟨n, hnn⟩ : ∃ n, n = xs.length := ⟨_, rfl⟩
  have HN := Lib.hid hnn
  rw [← hnn] at HCO HV hn ⊢
  obtain ⟨m, hm⟩ : ∃ m, m = lackC W xs := ⟨_, rfl⟩
  rw [← hm] at hml hmx hal HDEF HLEN
  obtain ⟨ah, hah⟩ : ∃ ah, ah = aheadC side m := ⟨_, rfl⟩
  rw [← hah] at hal HDEF
  obtain ⟨Wd, hWd⟩ : ∃ Wd, Wd = wc W := ⟨_, rfl⟩
  rw [← hWd] at HW hmx hwd
  obtain ⟨cc, hcc⟩ : ∃ cc, cc = colsC xs := ⟨_, rfl⟩
  rw [← hcc] at HCO hmx hcb
  obtain ⟨PAD, hPAD⟩ : ∃ PAD, PAD = padC W side xs := ⟨_, rfl⟩
  rw [← hPAD] at HDEF HLEN ⊢
  have hsub : IntKind.i64.wrap (Wd - cc) = Wd - cc := by rw [IntKind.wrap_i64]; have := HN.out; omega
  have hsub2 : IntKind.i64.wrap ((m : Int) - (ah : Int)) = ((m - ah : Nat) : Int) := by rw [IntKind.wrap_i64]; omega
  have HMX := Lib.hid hmx
  have HML := Lib.hid hml
  have HAL := Lib.hid hal
  have HWD := Lib.hid hwd
  have HCB := Lib.hid hcb
  have hah2 := hah
  have HAH := Lib.hid hah2
  unfold aheadC at hah
  clear hv hnn hwd hWd hcc hPAD hmx hm hcb hah2
  go_enter Tryz.func13, Tryz.ntmps13
  go_wp2_with fail
  refine HW.out.mono ?_
  rintro e w1 ⟨rfl, rfl⟩
  go_wp2_with fail
  refine HCO.out.mono ?_
  rintro e w2 ⟨rfl, b2⟩
  have HB2 := Lib.hid b2
  clear b2 HW HCO
  go_upto_region 3 with (fail)
  rw [HMX.out]
  have HNB := Lib.hid hn
  clear hn hml hal
  by_cases hs1 : side = 1
  · have hg1 : (side == 1) = true := by simpa using hs1
    rw [if_pos hs1] at hah
    subst hah
    rw [Nat.sub_self] at HDEF
    clear hs1 hsub2
    have h1 := jblanks_any ah w2 (by have := HML.out; have := HAL.out; omega)
    go_wp2_with fail
    refine h1.mono ?_
    clear h1
    rintro e w3 ⟨v3, rfl, ho3, b3⟩
    obtain ⟨a3, c3, e3⟩ := (held_of_owns ho3).len
    rw [List.length_replicate] at e3
    subst e3
    have HO3 := Lib.hid (held_of_owns ho3)
    have HB3 := Lib.hid (HB2.out.trans (b3.mono HB2.out.size))
    clear ho3 b3
    have h2 := jblanks_any 0 w3 (by have := HML.out; have := HAL.out; omega)
    rw [show ((0 : Nat) : Int) = 0 from rfl] at h2
    go_wp2_with fail
    refine h2.mono ?_
    clear h2
    rintro e w4 ⟨v4, rfl, ho4, b4⟩
    obtain ⟨a4, c4, e4⟩ := (held_of_owns ho4).len
    rw [List.length_replicate] at e4
    subst e4
    have hb5 := (Below.refl w4.heap.size w4).alloc (Nat.le_refl _) (.cells #[.slice a3 ah c3, .slice ao n ca, .slice a4 0 c4] 34)
    have hb4 := HB3.out.trans (b4.mono HB3.out.size)
    have hnew := Has.new w4 [.slice a3 ah c3, .slice ao n ca, .slice a4 0 c4] 34
    have HB5 := Lib.hid (hb4.trans (hb5.mono hb4.size))
    have hcat := rconcat_any (.slice (some ⟨w4.heap.size, 0, none⟩) 3 3) [List.replicate ah 32, xs, List.replicate 0 32] (w4.alloc (.cells #[.slice a3 ah c3, .slice ao n ca, .slice a4 0 c4] 34)) ⟨_, _, rfl, Nat.le_refl _, fun i hi => by
      have h3 : Held .i32 (w4.alloc (.cells #[.slice a3 ah c3, .slice ao n ca, .slice a4 0 c4] 34)) (.slice a3 ah c3) (List.replicate ah 32) := (HO3.out.below b4).below hb5
      have h4 : Held .i32 (w4.alloc (.cells #[.slice a3 ah c3, .slice ao n ca, .slice a4 0 c4] 34)) (.slice a4 0 c4) (List.replicate 0 32) := (held_of_owns ho4).below hb5
      have h5 : Held .i32 (w4.alloc (.cells #[.slice a3 ah c3, .slice ao n ca, .slice a4 0 c4] 34)) (.slice ao n ca) xs := (HV.out.below hb4).below hb5
      match i, hi with
      | 0, _ => exact ⟨_, 0, _, rfl, by simp, hnew.cell 0 _ rfl, h3⟩
      | 1, _ => exact ⟨_, 0, _, rfl, by simp, hnew.cell 1 _ rfl, h5⟩
      | 2, _ => exact ⟨_, 0, _, rfl, by simp, hnew.cell 2 _ rfl, h4⟩
      | i + 3, hi => exact absurd hi (by simp)⟩ (by simp) (by rw [← HDEF.out]; have := HLEN.out; have := HML.out; have := HN.out; have := HNB.out; omega)
    rw [← HDEF.out] at hcat
    have HCAT := Lib.hid hcat
    clear hcat hnew hb5 hb4 ho4 b4
    go_wp2_with fail
    refine HCAT.out.mono ?_
    rintro e w6 ⟨v6, rfl, ho6, b6⟩
    have HR := Lib.hid (owns_mono ho6 HB5.out.size)
    have HF := Lib.hid (HB5.out.trans (b6.mono HB5.out.size))
    clear ho6 b6
    go_wp2
    go_ret
    exact ⟨_, (ret_eq (by first | rfl | (simp <;> omega))), HR.out, HF.out⟩
  · have hg1 : (side == 1) = false := by simpa using hs1
    rw [if_neg hs1] at hah
    by_cases hs2 : side = 2
    · have hg2 : (side == 2) = true := by simpa using hs2
      rw [if_pos hs2] at hah
      obtain ⟨rs, hrs⟩ : ∃ rs, rs = m - ah := ⟨_, rfl⟩
      rw [← hrs] at HDEF
      have hq : (m : Int) / 2 = (ah : Int) := by omega
      have hsub3 : IntKind.i64.wrap ((m : Int) - (ah : Int)) = (rs : Int) := by rw [hsub2, hrs]
      have HAL := Lib.hid (show ah ≤ m ∧ rs ≤ m from ⟨HAL.out, by omega⟩)
      have HQ := Lib.hid hq
      have hwq : IntKind.i64.wrap ((m : Int) / 2) = (m : Int) / 2 := by rw [IntKind.wrap_i64]; have := HML.out; omega
      clear hs1 hs2 hah hrs hsub2 hq
      go_upto_region 8 with (fail)
      rw [HQ.out]
      have h1 := jblanks_any ah w2 (by have := HML.out; have := HAL.out; omega)
      go_wp2_with fail
      refine h1.mono ?_
      clear h1
      rintro e w3 ⟨v3, rfl, ho3, b3⟩
      obtain ⟨a3, c3, e3⟩ := (held_of_owns ho3).len
      rw [List.length_replicate] at e3
      subst e3
      have HO3 := Lib.hid (held_of_owns ho3)
      have HB3 := Lib.hid (HB2.out.trans (b3.mono HB2.out.size))
      clear ho3 b3
      have h2 := jblanks_any rs w3 (by have := HML.out; have := HAL.out; omega)
      go_wp2_with fail
      refine h2.mono ?_
      clear h2
      rintro e w4 ⟨v4, rfl, ho4, b4⟩
      obtain ⟨a4, c4, e4⟩ := (held_of_owns ho4).len
      rw [List.length_replicate] at e4
      subst e4
      have hb5 := (Below.refl w4.heap.size w4).alloc (Nat.le_refl _) (.cells #[.slice a3 ah c3, .slice ao n ca, .slice a4 rs c4] 34)
      have hb4 := HB3.out.trans (b4.mono HB3.out.size)
      have hnew := Has.new w4 [.slice a3 ah c3, .slice ao n ca, .slice a4 rs c4] 34
      have HB5 := Lib.hid (hb4.trans (hb5.mono hb4.size))
      have hcat := rconcat_any (.slice (some ⟨w4.heap.size, 0, none⟩) 3 3) [List.replicate ah 32, xs, List.replicate rs 32] (w4.alloc (.cells #[.slice a3 ah c3, .slice ao n ca, .slice a4 rs c4] 34)) ⟨_, _, rfl, Nat.le_refl _, fun i hi => by
        have h3 : Held .i32 (w4.alloc (.cells #[.slice a3 ah c3, .slice ao n ca, .slice a4 rs c4] 34)) (.slice a3 ah c3) (List.replicate ah 32) := (HO3.out.below b4).below hb5
        have h4 : Held .i32 (w4.alloc (.cells #[.slice a3 ah c3, .slice ao n ca, .slice a4 rs c4] 34)) (.slice a4 rs c4) (List.replicate rs 32) := (held_of_owns ho4).below hb5
        have h5 : Held .i32 (w4.alloc (.cells #[.slice a3 ah c3, .slice ao n ca, .slice a4 rs c4] 34)) (.slice ao n ca) xs := (HV.out.below hb4).below hb5
        match i, hi with
        | 0, _ => exact ⟨_, 0, _, rfl, by simp, hnew.cell 0 _ rfl, h3⟩
        | 1, _ => exact ⟨_, 0, _, rfl, by simp, hnew.cell 1 _ rfl, h5⟩
        | 2, _ => exact ⟨_, 0, _, rfl, by simp, hnew.cell 2 _ rfl, h4⟩
        | i + 3, hi => exact absurd hi (by simp)⟩ (by simp) (by rw [← HDEF.out]; have := HLEN.out; have := HML.out; have := HN.out; have := HNB.out; omega)
      rw [← HDEF.out] at hcat
      have HCAT := Lib.hid hcat
      clear hcat hnew hb5 hb4 ho4 b4
      go_wp2_with fail
      refine HCAT.out.mono ?_
      rintro e w6 ⟨v6, rfl, ho6, b6⟩
      have HR := Lib.hid (owns_mono ho6 HB5.out.size)
      have HF := Lib.hid (HB5.out.trans (b6.mono HB5.out.size))
      clear ho6 b6
      go_wp2
      go_ret
      exact ⟨_, (ret_eq (by first | rfl | (simp <;> omega))), HR.out, HF.out⟩
    · have hg2 : (side == 2) = false := by simpa using hs2
      rw [if_neg hs2] at hah
      subst hah
      rw [Nat.sub_zero] at HDEF
      have hwm : IntKind.i64.wrap (m : Int) = (m : Int) := by rw [IntKind.wrap_i64]; have := HML.out; omega
      clear hs1 hs2 hsub2
      have h1 := jblanks_any 0 w2 (by have := HML.out; have := HAL.out; omega)
      rw [show ((0 : Nat) : Int) = 0 from rfl] at h1
      go_wp2_with fail
      refine h1.mono ?_
      clear h1
      rintro e w3 ⟨v3, rfl, ho3, b3⟩
      obtain ⟨a3, c3, e3⟩ := (held_of_owns ho3).len
      rw [List.length_replicate] at e3
      subst e3
      have HO3 := Lib.hid (held_of_owns ho3)
      have HB3 := Lib.hid (HB2.out.trans (b3.mono HB2.out.size))
      clear ho3 b3
      have h2 := jblanks_any m w3 (by have := HML.out; have := HAL.out; omega)
      go_wp2_with fail
      refine h2.mono ?_
      clear h2
      rintro e w4 ⟨v4, rfl, ho4, b4⟩
      obtain ⟨a4, c4, e4⟩ := (held_of_owns ho4).len
      rw [List.length_replicate] at e4
      subst e4
      have hb5 := (Below.refl w4.heap.size w4).alloc (Nat.le_refl _) (.cells #[.slice a3 0 c3, .slice ao n ca, .slice a4 m c4] 34)
      have hb4 := HB3.out.trans (b4.mono HB3.out.size)
      have hnew := Has.new w4 [.slice a3 0 c3, .slice ao n ca, .slice a4 m c4] 34
      have HB5 := Lib.hid (hb4.trans (hb5.mono hb4.size))
      have hcat := rconcat_any (.slice (some ⟨w4.heap.size, 0, none⟩) 3 3) [List.replicate 0 32, xs, List.replicate m 32] (w4.alloc (.cells #[.slice a3 0 c3, .slice ao n ca, .slice a4 m c4] 34)) ⟨_, _, rfl, Nat.le_refl _, fun i hi => by
        have h3 : Held .i32 (w4.alloc (.cells #[.slice a3 0 c3, .slice ao n ca, .slice a4 m c4] 34)) (.slice a3 0 c3) (List.replicate 0 32) := (HO3.out.below b4).below hb5
        have h4 : Held .i32 (w4.alloc (.cells #[.slice a3 0 c3, .slice ao n ca, .slice a4 m c4] 34)) (.slice a4 m c4) (List.replicate m 32) := (held_of_owns ho4).below hb5
        have h5 : Held .i32 (w4.alloc (.cells #[.slice a3 0 c3, .slice ao n ca, .slice a4 m c4] 34)) (.slice ao n ca) xs := (HV.out.below hb4).below hb5
        match i, hi with
        | 0, _ => exact ⟨_, 0, _, rfl, by simp, hnew.cell 0 _ rfl, h3⟩
        | 1, _ => exact ⟨_, 0, _, rfl, by simp, hnew.cell 1 _ rfl, h5⟩
        | 2, _ => exact ⟨_, 0, _, rfl, by simp, hnew.cell 2 _ rfl, h4⟩
        | i + 3, hi => exact absurd hi (by simp)⟩ (by simp) (by rw [← HDEF.out]; have := HLEN.out; have := HML.out; have := HN.out; have := HNB.out; omega)
      rw [← HDEF.out] at hcat
      have HCAT := Lib.hid hcat
      clear hcat hnew hb5 hb4 ho4 b4
      go_wp2_with fail
      refine HCAT.out.mono ?_
      rintro e w6 ⟨v6, rfl, ho6, b6⟩
      have HR := Lib.hid (owns_mono ho6 HB5.out.size)
      have HF := Lib.hid (HB5.out.trans (b6.mono HB5.out.size))
      clear ho6 b6
      go_wp2
      go_ret
      exact ⟨_, (ret_eq (by first | rfl | (simp <;> omega))), HR.out, HF.out⟩
end Go.Proofs.YtkpmmkokfllafaaGreat
