/- The reference's Cut, Pad, Fit (58). -/
import Derived.Test.YtkpmmkokfllafaaGreatMg8
import Derived.Test.YtkpmmkokfllafaaGreatMeaH
import Derived.Test.YtkpmmkokfllafaaGreatMg1
namespace Go.Proofs.YtkpmmkokfllafaaGreat
open Go.RowKit Go.ChangeShapes Go.WideShapes
theorem info_tx8 : (Tryz.prog.info? 21).map (fun i => (i.zero, i.size, i.bytes)) = some (some (.int .i32 0), (intE .i32).size, 4) := by kernel_rfl
theorem rb_nat (xs : List Int) (W : Int) : ∀ i, i ≤ (clS xs).length + 1 → ∃ k : Nat, (rb xs W i).1 = (k : Int) ∧ k ≤ xs.length
  | 0, _ => ⟨0, rfl, Nat.zero_le _⟩
  | i + 1, hi => by
    rw [show rb xs W (i + 1) = if cumW xs i ≤ W then ((endC xs i : Int), cumW xs i) else rb xs W i from rfl]
    by_cases h : cumW xs i ≤ W
    · rw [if_pos h]
      exact ⟨endC xs i, rfl, endC_le xs i (by omega)⟩
    · rw [if_neg h]
      exact rb_nat xs W i (by omega)
theorem rbc_nat (xs : List Int) (W : Int) : ∃ k : Nat, (rbC xs W).1 = (k : Int) ∧ k ≤ xs.length := by
  unfold rbC
  split
  · exact ⟨0, rfl, Nat.zero_le _⟩
  · exact rb_nat xs W _ (Nat.le_refl _)
set_option maxRecDepth 100000 in
set_option maxHeartbeats 1600000 in
theorem rjcut_any (v : Value) (xs : List Int) (W : Int) (w : World) (hv : HeldE (intE .i32) (fun b => b < w.heap.size) w v xs) (hn : xs.length ≤ 1000000) (hr : bounds32 xs) : Calls Tryz.prog 26 #[v, .int .i64 W] w (Cloned 21 .i32 w (cutC W xs)) := by
  obtain ⟨ao, ca, rfl, hcap, hmx, hnil, _⟩ := id hv
  have hwe : max 0 (min W 1024) = wc W := by unfold wc; omega
  have HWE := Lib.hid hwe
  have HHD := Lib.hid (rhead_any _ _ xs (wc W) w hv hn hr)
  have HV := Lib.hid hv
  obtain ⟨k, hk1, hk⟩ := rbc_nat xs (wc W)
  have HCUT := Lib.hid (show cutC W xs = xs.take k from by unfold cutC; rw [hk1]; simp)
  have HNIL := Lib.hid hnil
  have HMX := Lib.hid hmx
  obtain ⟨n, hnn⟩ : ∃ n, n = xs.length := ⟨_, rfl⟩
  have HN := Lib.hid hnn
  unfold HeadGives at HHD
  rw [hk1] at HHD
  rw [← hnn] at HHD HV hn hcap hk ⊢
  obtain ⟨Wd, hWd⟩ : ∃ Wd, Wd = wc W := ⟨_, rfl⟩
  rw [← hWd] at HHD HWE
  obtain ⟨CUT, hCUT⟩ : ∃ CUT, CUT = cutC W xs := ⟨_, rfl⟩
  rw [← hCUT] at HCUT ⊢
  obtain ⟨us, hus⟩ : ∃ us, us = (rbC xs Wd).2 := ⟨_, rfl⟩
  rw [← hus] at HHD
  have hki : (k : Int) ≤ n := by omega
  have hkc : k ≤ ca := by omega
  have hkci : (k : Int) ≤ ca := by omega
  have HCL := Lib.hid (show CUT.length = k from by rw [HCUT.out, List.length_take, ← HN.out]; omega)
  clear hv hnn hwe hWd hnil hmx hCUT hus hk1
  go_enter Tryz.func26, Tryz.ntmps26
  go_wp2_with fail
  rw [HWE.out]
  refine HHD.out.mono ?_
  rintro e w2 ⟨rfl, b2⟩
  have HB := Lib.hid b2
  clear b2 HHD
  have hb1 := (Below.refl w2.heap.size w2).alloc (Nat.le_refl _) (.cells #[] 21)
  have ho1 : OwnE (intE .i32) (fun _ => True) (w2.alloc (.cells #[] 21)) w2.heap.size 21 (.slice (some ⟨w2.heap.size, 0, none⟩) 0 0) [] := OwnE.empty (World.ownsRow_lit w2 #[] 0 (Nat.le_refl _) (by decide) rfl)
  have HO1 := Lib.hid ho1
  have HB1 := Lib.hid hb1
  have key : ∀ a' : Option Addr, (a' = ao) → HeldE (intE .i32) (fun b => True ∧ (Value.slice (some ⟨w2.heap.size, 0, none⟩) 0 0).ownBlock ≠ some b) (w2.alloc (.cells #[] 21)) (.slice a' k ca) CUT := by
    intro a' e
    subst e
    rw [HCUT.out]
    have hp := ((HV.out.below HB.out).below hb1).part 0 k (Nat.zero_le _) (by rw [← HN.out]; exact hk) a' ca (fun h => ⟨h, (HNIL.out h).2⟩) (fun b' o' h _ => by rw [h]; simp) (fun a h => by rw [h]; simp) (by omega) HMX.out
    rw [List.drop_zero, Nat.sub_zero] at hp
    exact hp.zone (fun b _ hz => ⟨trivial, fun e => by simp only [Value.ownBlock, Option.some.injEq] at e; have := HB.out.size; omega⟩)
  have HKEY := Lib.hid key
  clear key hb1 ho1
  have hl0 : (([] : List Int).length + CUT.length) * 4 ≤ 140737488355328 := by rw [HCL.out]; simp only [List.length_nil]; omega
  have hl1 : ([] : List Int).length + CUT.length ≤ 140737488355328 := by rw [HCL.out]; simp only [List.length_nil]; omega
  have HL := Lib.hid (And.intro hl0 hl1)
  clear hl0 hl1
  cases hao : ao with
  | none =>
    subst hao
    have hca := (HNIL.out rfl)
    have hn0 : n = 0 := by rw [HN.out, hca.1]; rfl
    have hk0 : k = 0 := by omega
    have hc0 : ca = 0 := hca.2
    subst hk0 hc0
    have HU := Lib.hid (HKEY.out none rfl)
    clear hca hn0
    go_wp2_with (at_builtin; refine wpList_append_e (E := intE .i32) (Z := fun _ => True) rfl (.tmp 15) (.tmp 18) 34 rfl (.int .i32 0) 4 Tryz.underlying34 info_tx8 rfl (by decide) rfl rfl HO1.out HU.out HL.out.1 HL.out.2 HB1.out.size ?_)
    intro v3 w3 ho3 b3 _ _
    try rw [List.nil_append] at ho3
    have HR := Lib.hid (show Cloned 21 .i32 w CUT (.returned v3) w3 from ⟨v3, rfl, owns_mono ho3.ints HB.out.size, HB.out.trans ((HB1.out.trans b3).mono HB.out.size)⟩)
    clear ho3 b3
    go_wp2
    go_ret
    exact HR.out
  | some a =>
    subst hao
    have HU := Lib.hid (HKEY.out (some a) rfl)
    go_wp2_with (at_builtin; refine wpList_append_e (E := intE .i32) (Z := fun _ => True) rfl (.tmp 15) (.tmp 18) 34 rfl (.int .i32 0) 4 Tryz.underlying34 info_tx8 rfl (by decide) rfl rfl HO1.out HU.out HL.out.1 HL.out.2 HB1.out.size ?_)
    intro v3 w3 ho3 b3 _ _
    try rw [List.nil_append] at ho3
    have HR := Lib.hid (show Cloned 21 .i32 w CUT (.returned v3) w3 from ⟨v3, rfl, owns_mono ho3.ints HB.out.size, HB.out.trans ((HB1.out.trans b3).mono HB.out.size)⟩)
    clear ho3 b3
    go_wp2
    go_ret
    exact HR.out
set_option maxRecDepth 100000 in
set_option maxHeartbeats 3000000 in
theorem rjpad_any (v : Value) (xs : List Int) (W side : Int) (w : World) (hv : HeldE (intE .i32) (fun b => b < w.heap.size) w v xs) (hn : xs.length ≤ 100000) (hr : bounds32 xs) : Calls Tryz.prog 25 #[v, .int .i64 W, .int .i64 side] w (CatOk w (padC W side xs)) := by
  obtain ⟨ao, ca, rfl⟩ := hv.len
  have hwe : max 0 (min W 1024) = wc W := by unfold wc; omega
  have HWE := Lib.hid hwe
  have hwd := wc_bd W
  have HCO := Lib.hid (rcols_any _ _ xs w hv (by omega) hr)
  have HV := Lib.hid hv
  have hcb := colsC_bd xs
  have hml := lack_le W xs
  have hmd : (lackC W xs : Int) = max (wc W - colsC xs) 0 := by unfold lackC; omega
  have hal := ahead_le side (lackC W xs)
  have HDEF := Lib.hid (show padC W side xs = List.replicate (aheadC side (lackC W xs)) 32 ++ (xs ++ List.replicate (lackC W xs - aheadC side (lackC W xs)) 32) from rfl)
  obtain ⟨n, hnn⟩ : ∃ n, n = xs.length := ⟨_, rfl⟩
  have HN := Lib.hid hnn
  rw [← hnn] at HCO HV hn ⊢
  obtain ⟨m, hm⟩ : ∃ m, m = lackC W xs := ⟨_, rfl⟩
  rw [← hm] at hml hmd hal HDEF
  obtain ⟨ah, hah⟩ : ∃ ah, ah = aheadC side m := ⟨_, rfl⟩
  rw [← hah] at hal HDEF
  obtain ⟨Wd, hWd⟩ : ∃ Wd, Wd = wc W := ⟨_, rfl⟩
  rw [← hWd] at HWE hmd hwd
  obtain ⟨cc, hcc⟩ : ∃ cc, cc = colsC xs := ⟨_, rfl⟩
  rw [← hcc] at HCO hmd hcb
  obtain ⟨PAD, hPAD⟩ : ∃ PAD, PAD = padC W side xs := ⟨_, rfl⟩
  rw [← hPAD] at HDEF ⊢
  have hsub : IntKind.i64.wrap (Wd - cc) = Wd - cc := by rw [IntKind.wrap_i64]; omega
  have HMD := Lib.hid hmd
  have HML := Lib.hid (show m ≤ 1024 ∧ ah ≤ m ∧ n ≤ 100000 from ⟨hml, hal, hn⟩)
  have HAH := Lib.hid hah
  have HWD := Lib.hid hwd
  clear hv hnn hwe hWd hcc hPAD hm hmd hcb hah hn hml hal hwd hr
  go_enter Tryz.func25, Tryz.ntmps25
  go_wp2_with fail
  rw [HWE.out]
  refine HCO.out.mono ?_
  rintro e w1 ⟨rfl, b1⟩
  have HB1 := Lib.hid b1
  clear b1 HCO
  go_upto_region 3 with (fail)
  obtain ⟨la, hla⟩ : ∃ la, la = Wd - cc := ⟨_, rfl⟩
  rw [← hla]
  have HMA := Lib.hid (show (m : Int) = max la 0 from by rw [hla]; exact HMD.out)
  clear hla hsub
  go_wp2
  go_loopw [8, 9] (fun ov iv wr => ∃ k : Nat, k ≤ m ∧ iv = .int .i64 k ∧ OwnE (intE .i32) (fun _ => True) wr w1.heap.size 21 ov (List.replicate (min k ah) 32) ∧ Below w1.heap.size w1 wr) (fun _ iv _ => m - (intOf iv).toNat)
  case atStart => exact ⟨0, Nat.zero_le _, rfl, by rw [Nat.zero_min]; exact OwnE.nil _ _ _ _ _, Below.refl _ _⟩
  case round =>
    obtain ⟨k, hk, rfl, hown, hbw⟩ := hrel
    obtain ⟨ov, hov⟩ : ∃ ov, ov = u8 := ⟨_, rfl⟩
    rw [← hov] at hown ⊢
    obtain ⟨wk, hwk⟩ : ∃ wk, wk = wr := ⟨_, rfl⟩
    subst hwk
    have HO := Lib.hid hown
    have HBW := Lib.hid hbw
    clear hov hown hbw
    by_cases hlt : k < m
    · obtain rfl : la = (m : Int) := by have := HMA.out; omega
      have hg : decide ((k : Int) < (m : Int)) = true := by rw [decide_eq_true_eq]; omega
      have hki : (k : Int) < (m : Int) := by omega
      have hwk : IntKind.i64.wrap ((k : Int) + 1) = (k : Int) + 1 := by rw [IntKind.wrap_i64]; have := HML.out; omega
      have hwq : IntKind.i64.wrap ((m : Int) / 2) = (m : Int) / 2 := by rw [IntKind.wrap_i64]; have := HML.out; omega
      have b0 := (Below.refl wk.heap.size wk).alloc (Nat.le_refl _) (.cells [.int .i32 32].toArray 21)
      have hah := HAH.out
      unfold aheadC at hah
      by_cases hs1 : side = 1
      · have hg1 : (side == 1) = true := by simpa using hs1
        rw [if_pos hs1] at hah
        have hmin : min k ah = k ∧ min (k + 1) ah = k + 1 := by omega
        have HMI := Lib.hid hmin
        clear hs1 hah hmin
        have HO1 := Lib.hid (HO.out.below b0)
        have HB1 := Lib.hid (HBW.out.trans (b0.mono HBW.out.size))
        have HU := Lib.hid (show HeldE (intE .i32) (fun b => True ∧ ov.ownBlock ≠ some b) (wk.alloc (.cells [.int .i32 32].toArray 21)) (.slice (some ⟨wk.heap.size, 0, none⟩) 1 1) [32] from heldE_one (E := intE .i32) (Y := fun _ => False) [.int .i32 32] 32 rfl (fun _ _ h => h.elim) ⟨trivial, fun e => by have := (HO.out.lt _ e).2; omega⟩)
        clear b0
        go_wp2_with (at_builtin; refine wpList_append_e (E := intE .i32) (Z := fun _ => True) rfl (.tmp 36) (.tmp 37) 34 rfl (.int .i32 0) 4 Tryz.underlying34 info_tx8 rfl (by decide) rfl rfl HO1.out HU.out (by simp only [List.length_replicate, List.length_singleton]; have := HML.out; omega) (by simp only [List.length_replicate, List.length_singleton]; have := HML.out; omega) HB1.out.size ?_)
        intro v2 w2 ho2 b2 _ _
        rw [show List.replicate (min k ah) (32 : Int) ++ [32] = List.replicate (min (k + 1) ah) 32 from by rw [HMI.out.1, HMI.out.2]; exact (List.replicate_succ' ..).symm] at ho2
        have HF1 := Lib.hid ho2
        have HF2 := Lib.hid (HB1.out.trans b2)
        clear ho2 b2
        go_wp2
        go_roundw
        case rel => exact ⟨k + 1, by omega, by go_num, HF1.out, HF2.out⟩
        case measure => simp [intOf] <;> omega
      · have hg1 : (side == 1) = false := by simpa using hs1
        rw [if_neg hs1] at hah
        by_cases hs2 : side = 2
        · have hg2 : (side == 2) = true := by simpa using hs2
          rw [if_pos hs2] at hah
          by_cases hh : k < m / 2
          · have hg3 : decide ((k : Int) < (m : Int) / 2) = true := by rw [decide_eq_true_eq]; omega
            have hmin : min k ah = k ∧ min (k + 1) ah = k + 1 := by omega
            have HMI := Lib.hid hmin
            clear hs1 hs2 hah hmin hh
            have HO1 := Lib.hid (HO.out.below b0)
            have HB1 := Lib.hid (HBW.out.trans (b0.mono HBW.out.size))
            have HU := Lib.hid (show HeldE (intE .i32) (fun b => True ∧ ov.ownBlock ≠ some b) (wk.alloc (.cells [.int .i32 32].toArray 21)) (.slice (some ⟨wk.heap.size, 0, none⟩) 1 1) [32] from heldE_one (E := intE .i32) (Y := fun _ => False) [.int .i32 32] 32 rfl (fun _ _ h => h.elim) ⟨trivial, fun e => by have := (HO.out.lt _ e).2; omega⟩)
            clear b0
            go_wp2_with (at_builtin; refine wpList_append_e (E := intE .i32) (Z := fun _ => True) rfl (.tmp 36) (.tmp 37) 34 rfl (.int .i32 0) 4 Tryz.underlying34 info_tx8 rfl (by decide) rfl rfl HO1.out HU.out (by simp only [List.length_replicate, List.length_singleton]; have := HML.out; omega) (by simp only [List.length_replicate, List.length_singleton]; have := HML.out; omega) HB1.out.size ?_)
            intro v2 w2 ho2 b2 _ _
            rw [show List.replicate (min k ah) (32 : Int) ++ [32] = List.replicate (min (k + 1) ah) 32 from by rw [HMI.out.1, HMI.out.2]; exact (List.replicate_succ' ..).symm] at ho2
            have HF1 := Lib.hid ho2
            have HF2 := Lib.hid (HB1.out.trans b2)
            clear ho2 b2
            go_wp2
            go_roundw
            case rel => exact ⟨k + 1, by omega, by go_num, HF1.out, HF2.out⟩
            case measure => simp [intOf] <;> omega
          · have hg3 : decide ((k : Int) < (m : Int) / 2) = false := by rw [decide_eq_false_iff_not]; omega
            have hmin : min k ah = min (k + 1) ah := by omega
            have HMI := Lib.hid hmin
            clear hs1 hs2 hah hmin hh
            clear b0
            rw [show min k ah = min (k + 1) ah from HMI.out] at HO
            go_wp2
            go_roundw
            case rel => exact ⟨k + 1, by omega, by go_num, HO.out, HBW.out⟩
            case measure => simp [intOf] <;> omega
        · have hg2 : (side == 2) = false := by simpa using hs2
          rw [if_neg hs2] at hah
          have hmin : min k ah = min (k + 1) ah := by omega
          have HMI := Lib.hid hmin
          clear hs1 hs2 hah hmin
          clear b0
          rw [show min k ah = min (k + 1) ah from HMI.out] at HO
          go_wp2
          go_roundw
          case rel => exact ⟨k + 1, by omega, by go_num, HO.out, HBW.out⟩
          case measure => simp [intOf] <;> omega
    · obtain rfl : k = m := by omega
      have hgl : decide ((k : Int) < la) = false := by rw [decide_eq_false_iff_not]; have := HMA.out; omega
      have ho := HO.out
      rw [show min k ah = ah from by have := HML.out; omega] at ho
      obtain ⟨ga, gc, e⟩ := (ho.held (Z := fun _ => True) (fun _ _ _ => trivial)).len
      rw [List.length_replicate] at e
      subst e
      have HO1 := Lib.hid ho
      have hv1 := ((HV.out.below HB1.out).below HBW.out).zone (Y := fun b => b < w1.heap.size) (fun b _ hz => by have := HB1.out.size; omega)
      have HU := Lib.hid (hv1.apart (v := .slice ga ah gc) (w' := wk) ho.lt)
      clear ho hv1
      go_wp2_with (at_builtin; refine wpList_append_e (E := intE .i32) (Z := fun _ => True) rfl (.tmp 41) (.tmp 42) 34 rfl (.int .i32 0) 4 Tryz.underlying34 info_tx8 rfl (by decide) rfl rfl HO1.out HU.out (by rw [List.length_replicate, ← HN.out]; have := HML.out; omega) (by rw [List.length_replicate, ← HN.out]; have := HML.out; omega) HBW.out.size ?_)
      intro v2 w2 ho2 b2 _ _
      have HO2 := Lib.hid ho2
      have HB2 := Lib.hid (HBW.out.trans b2)
      clear ho2 b2
      go_wp2
      go_loopw [8, 11] (fun ov iv wr => ∃ j : Nat, ah ≤ j ∧ j ≤ k ∧ iv = .int .i64 j ∧ OwnE (intE .i32) (fun _ => True) wr w1.heap.size 21 ov (List.replicate ah 32 ++ xs ++ List.replicate (j - ah) 32) ∧ Below w1.heap.size w1 wr) (fun _ iv _ => k - (intOf iv).toNat)
      case atStart => exact ⟨ah, Nat.le_refl _, HML.out.2.1, rfl, by rw [Nat.sub_self]; simpa using HO2.out, HB2.out⟩
      case round =>
        obtain ⟨j, hj1, hj2, rfl, hown, hbw⟩ := hrel
        obtain ⟨ov, hov⟩ : ∃ ov, ov = u8 := ⟨_, rfl⟩
        rw [← hov] at hown ⊢
        obtain ⟨wq, hwq⟩ : ∃ wq, wq = wr := ⟨_, rfl⟩
        subst hwq
        have HOW := Lib.hid hown
        have HBQ := Lib.hid hbw
        clear hov hown hbw hgl
        by_cases hlt2 : j < k
        · have hgj : decide ((j : Int) < la) = true := by rw [decide_eq_true_eq]; have := HMA.out; omega
          have hwk : IntKind.i64.wrap ((j : Int) + 1) = (j : Int) + 1 := by rw [IntKind.wrap_i64]; have := HML.out; omega
          have b0 := (Below.refl wq.heap.size wq).alloc (Nat.le_refl _) (.cells [.int .i32 32].toArray 21)
          have HO3 := Lib.hid (HOW.out.below b0)
          have HB3 := Lib.hid (HBQ.out.trans (b0.mono HBQ.out.size))
          have HU3 := Lib.hid (show HeldE (intE .i32) (fun b => True ∧ ov.ownBlock ≠ some b) (wq.alloc (.cells [.int .i32 32].toArray 21)) (.slice (some ⟨wq.heap.size, 0, none⟩) 1 1) [32] from heldE_one (E := intE .i32) (Y := fun _ => False) [.int .i32 32] 32 rfl (fun _ _ h => h.elim) ⟨trivial, fun e => by have := (HOW.out.lt _ e).2; omega⟩)
          obtain ⟨PR, hPR⟩ : ∃ PR, PR = List.replicate ah (32 : Int) ++ xs ++ List.replicate (j - ah) 32 := ⟨_, rfl⟩
          have HPR := Lib.hid (show PR ++ [32] = List.replicate ah (32 : Int) ++ xs ++ List.replicate (j + 1 - ah) 32 from by
            rw [hPR, show j + 1 - ah = (j - ah) + 1 from by omega, List.replicate_succ', ← List.append_assoc])
          have HPL := Lib.hid (show PR.length ≤ 200000 from by rw [hPR, List.length_append, List.length_append, List.length_replicate, List.length_replicate, ← HN.out]; have := HML.out; omega)
          rw [← hPR] at HO3
          clear b0 hPR
          go_wp2_with (at_builtin; refine wpList_append_e (E := intE .i32) (Z := fun _ => True) rfl (.tmp 50) (.tmp 51) 34 rfl (.int .i32 0) 4 Tryz.underlying34 info_tx8 rfl (by decide) rfl rfl HO3.out HU3.out (by simp only [List.length_singleton]; have := HPL.out; omega) (by simp only [List.length_singleton]; have := HPL.out; omega) HB3.out.size ?_)
          intro v4 w4 ho4 b4 _ _
          rw [HPR.out] at ho4
          have HF1 := Lib.hid ho4
          have HF2 := Lib.hid (HB3.out.trans b4)
          clear ho4 b4
          go_wp2
          go_roundw
          case rel => exact ⟨j + 1, by omega, by omega, by go_num, HF1.out, HF2.out⟩
          case measure => simp [intOf] <;> omega
        · obtain rfl : j = k := by omega
          have hgj : decide ((j : Int) < la) = false := by rw [decide_eq_false_iff_not]; have := HMA.out; omega
          have ho := HOW.out
          rw [List.append_assoc, ← HDEF.out] at ho
          have HR := Lib.hid (owns_mono ho.ints HB1.out.size)
          have HF := Lib.hid (HB1.out.trans (HBQ.out.mono HB1.out.size))
          clear ho
          go_wp2
          go_ret
          exact ⟨_, (ret_eq (by first | rfl | (simp <;> omega))), HR.out, HF.out⟩
end Go.Proofs.YtkpmmkokfllafaaGreat
