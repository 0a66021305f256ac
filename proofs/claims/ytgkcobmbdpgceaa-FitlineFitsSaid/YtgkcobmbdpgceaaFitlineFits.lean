/- FitlineFits (22.2) answers true at every text and width, and turns nothing. No condition. -/
import Derived.Test.YtgkcobmbdpgceaaMg8
import Derived.Test.YtgkcobmbdpgceaaFlnN
import Derived.Test.YtgkcobmbdpgceaaMeaH
import Derived.Test.YtgkcobmbdpgceaaMg7
import Derived.Test.YtgkcobmbdpgceaaMg2
import Derived.Test.YtgkcobmbdpgceaaMg1
import Derived.Test.YtgkcobmbdpgceaaRows
import Derived.ProofKit
import Derived.Lib.MinMax
import Derived.Deep.Cut
namespace Go.Proofs.Ytgkcobmbdpgceaa.lawFitlineFits
open Go.ChangeShapes Go.WideShapes Go.ChangeAt Go.RowKit
theorem b32_mem {xs : List Int} (h : bounds32 xs) : ∀ r ∈ xs, ∀ T : List Int, (∀ y ∈ T, y ∈ xs) → bounds32 T := by
  intro _ _ T hT i hi
  have hm : T.getD i 0 ∈ T := by
    rw [show T.getD i 0 = T[i] from by simp [List.getD, List.getElem?_eq_getElem hi]]
    exact List.getElem_mem _
  obtain ⟨j, hj, e⟩ := List.getElem_of_mem (hT _ hm)
  have := h j hj
  rw [show xs.getD j 0 = xs[j] from by simp [List.getD, List.getElem?_eq_getElem hj], e] at this
  exact this
theorem b32_sub {xs T : List Int} (h : bounds32 xs) (hT : ∀ y ∈ T, y ∈ xs) : bounds32 T := by
  intro i hi
  have hm : T.getD i 0 ∈ T := by
    rw [show T.getD i 0 = T[i] from by simp [List.getD, List.getElem?_eq_getElem hi]]
    exact List.getElem_mem _
  exact b32_mem h _ (hT _ hm) T hT i hi
theorem line_mem {L : List (List Int)} {xs : List Int} (h : L.flatten = xs) (i : Nat) : ∀ y ∈ L.getD i [], y ∈ xs := by
  intro y hy
  by_cases hi : i < L.length
  · rw [show L.getD i [] = L[i] from by simp [List.getD, List.getElem?_eq_getElem hi]] at hy
    rw [← h]
    exact List.mem_flatten.2 ⟨_, List.getElem_mem hi, hy⟩
  · simp [List.getD, List.getElem?_eq_none (show L.length ≤ i by omega)] at hy
theorem flat_step (L : List (List Int)) (k : Nat) (h : k < L.length) : (L.take (k + 1)).flatten = (L.take k).flatten ++ L.getD k [] := by
  rw [List.take_succ_eq_append_getElem h, List.flatten_append, show L.getD k [] = L[k] from by simp [List.getD, List.getElem?_eq_getElem h]]
  simp
set_option maxRecDepth 100000 in
set_option maxHeartbeats 3000000 in
theorem tailN (W : World) (v : Value) (xs : List Int) (Wr : Int) (hv : HeldE (intE .i32) (fun b => b < W.heap.size) W v xs) (hr : bounds32 xs) (hn : xs.length ≤ 300) : Calls Try.prog 7 #[v, .int .i64 Wr] W (Yes W) := by
  obtain ⟨ao, ca, rfl⟩ := hv.len
  have hd : decide ((300 : Int) < xs.length) = false := by rw [decide_eq_false_iff_not]; omega
  have hdn : decide (300 < xs.length) = false := by rw [decide_eq_false_iff_not]; omega
  have hsp := hv.ints
  obtain ⟨n, hnn⟩ : ∃ n, n = xs.length := ⟨_, rfl⟩
  have HNN := Lib.hid hnn
  have HV := Lib.hid hv
  have HR := Lib.hid hr
  have hcap := hv.spots.2.1
  have HSP := Lib.hid (show ∀ k, k < n → ∃ b off, ao = some ⟨b, off, none⟩ ∧ b < W.heap.size ∧ W.cell? ⟨b, off + k, none⟩ = some (.int .i32 (xs.getD k 0)) from fun k hk => hsp.spots k (by rw [← hnn]; exact hk))
  rw [← hnn] at HV hcap hd hdn hn ⊢
  have hcl : max 1 (min Wr 1024) = clampW Wr := by unfold clampW; omega
  have HCLW := Lib.hid hcl
  have hwd := clampW_bd Wr
  have HN := Lib.hid (show xs.length ≤ 300 by rw [← hnn]; exact hn)
  clear hv hr hsp hnn hcl
  go_enter Try.func7, Try.ntmps7
  go_wp2_with fail
  refine (works22_any _).mono ?_
  rintro e w1 ⟨rfl, b1⟩
  have B1 := Lib.hid b1
  clear b1
  go_wp2
  go_loopw [5] (fun i wr => ∃ k : Nat, k ≤ n ∧ i = .int .i64 k ∧ (∀ j, j < k → silB (xs.getD j 0) = false) ∧ Below W.heap.size W wr) (fun i _ => n - (intOf i).toNat)
  case atStart => exact ⟨0, Nat.zero_le _, rfl, fun j hj => absurd hj (Nat.not_lt_zero _), B1.out⟩
  case round =>
    obtain ⟨k, hk, rfl, hsl, hbw⟩ := hrel
    obtain ⟨wk, hwk⟩ : ∃ wk, wk = wr := ⟨_, rfl⟩
    subst hwk
    have HS := Lib.hid hsl
    have HB := Lib.hid hbw
    clear hsl hbw
    by_cases hlt : k < n
    · obtain ⟨b, off, e, hb, hc⟩ := HSP.out k hlt
      subst e
      have c0 := (HB.out.cell (p := ⟨b, off + k, none⟩) hb).trans hc
      have hS := rbsil_any (xs.getD k 0) wk
      obtain ⟨ch, hch⟩ : ∃ ch, ch = xs.getD k 0 := ⟨_, rfl⟩
      rw [← hch] at c0 hS
      have HCH := Lib.hid hch
      have hkc : k < ca := by omega
      have hki : (k : Int) < (n : Int) := by omega
      have hwk : IntKind.i64.wrap ((k : Int) + 1) = (k : Int) + 1 := by rw [IntKind.wrap_i64]; omega
      clear hc hch hd hdn hb
      cases hs : silB ch with
      | true =>
        rw [hs] at hS
        clear hs
        go_wp2_with fail
        refine hS.mono ?_
        clear hS
        rintro e w2 ⟨rfl, b2⟩
        have HF := Lib.hid (HB.out.trans (b2.mono HB.out.size))
        clear b2
        go_wp2
        go_ret
        exact ⟨(ret_eq (by first | rfl | (simp <;> omega))), HF.out⟩
      | false =>
        rw [hs] at hS
        have HS2 := Lib.hid (show ∀ j, j < k + 1 → silB (xs.getD j 0) = false from fun j hj => by
          by_cases h : j < k
          · exact HS.out j h
          · obtain rfl : j = k := by omega
            rw [← HCH.out]; exact hs)
        clear hs
        go_wp2_with fail
        refine hS.mono ?_
        clear hS
        rintro e w2 ⟨rfl, b2⟩
        have HF := Lib.hid (HB.out.trans (b2.mono HB.out.size))
        clear b2
        go_wp2
        go_roundw
        case rel => exact ⟨k + 1, by omega, by go_num, HS2.out, HF.out⟩
        case measure => simp [intOf] <;> omega
    · obtain rfl : k = n := by omega
      have hok := lines_ok Wr xs (fun r hm => by
        obtain ⟨j, hj, e⟩ := List.getElem_of_mem hm
        have := HS.out j (by rw [HNN.out]; exact hj)
        rw [show xs.getD j 0 = xs[j] from by simp [List.getD, List.getElem?_eq_getElem hj], e] at this
        exact this)
      have h1 := flines_any (.slice ao k ca) xs Wr wk (HV.out.below HB.out).ints (by have := HN.out; omega)
      obtain ⟨L, hL⟩ : ∃ L, L = linesC Wr xs := ⟨_, rfl⟩
      rw [← hL] at h1 hok
      have HOK0 := Lib.hid hok
      clear hd hdn hok hL
      go_wp2_with fail
      refine h1.mono ?_
      clear h1
      rintro e w2 ⟨v2, rfl, ho2, b2⟩
      have B2 := Lib.hid (HB.out.trans (b2.mono HB.out.size))
      have hh2 := (ho2.held (fun b h _ => h)).lower
      obtain ⟨a2, c2, rfl⟩ := hh2.len
      have hcap2 := hh2.spots.2.1
      have HX := Lib.hid hh2
      obtain ⟨m, hm⟩ : ∃ m, m = L.length := ⟨_, rfl⟩
      have HM := Lib.hid hm
      rw [← hm] at HX hcap2 ⊢
      have hmm : m ≤ 301 := by have := HOK0.out.few; have := HN.out; omega
      clear ho2 b2 hh2 hm
      go_upto_region 10 with (fail)
      rw [HCLW.out]
      obtain ⟨Wd, hWd⟩ : ∃ Wd, Wd = clampW Wr := ⟨_, rfl⟩
      have HOK := HOK0
      rw [← hWd] at hwd HOK ⊢
      have HWD := Lib.hid hwd
      have HCAP := Lib.hid hcap2
      have HBD := Lib.hid (show ∀ i, bounds32 (L.getD i []) from fun i => b32_sub HR.out (line_mem HOK.out.flat i))
      clear hWd hwd hcap2 HOK0 HSP HS
      go_wp2
      go_loopw [7, 8] (fun av i wr => ∃ k : Nat, k ≤ m ∧ i = .int .i64 k ∧ OwnE (intE .i32) (fun _ => True) wr w2.heap.size 21 av ((L.take k).flatten) ∧ Below w2.heap.size w2 wr) (fun _ i _ => m - (intOf i).toNat)
      case atStart => exact ⟨0, Nat.zero_le _, rfl, OwnE.nil _ _ _ _ _, Below.refl _ _⟩
      case round =>
        obtain ⟨k, hk, rfl, hown, hbw⟩ := hrel
        obtain ⟨av, hav⟩ : ∃ av, av = u7 := ⟨_, rfl⟩
        rw [← hav] at hown ⊢
        obtain ⟨wq, hwq⟩ : ∃ wq, wq = wr := ⟨_, rfl⟩
        subst hwq
        have HO := Lib.hid hown
        have HBW := Lib.hid hbw
        clear hav hown hbw
        by_cases hlt : k < m
        · have hh := (HX.out.below HBW.out).spots.2.2
          obtain ⟨ba, oa, e1, hb1, _, C1, q1, tv, hC1, ht⟩ := hh k (by rw [← HM.out]; exact hlt)
          subst e1 hC1
          have d1 : wq.cell? ⟨ba, oa + k, none⟩ = some tv := by have := q1 0 (by decide); simpa [show rowE.size = 1 from rfl] using this
          have HNX := Lib.hid (show k + 1 < m → ∃ tv2, wq.cell? ⟨ba, oa + (k + 1), none⟩ = some tv2 ∧ HeldE (intE .i32) (fun b => b < w2.heap.size) wq tv2 (L.getD (k + 1) []) ∧ 0 < (itemsC (L.getD (k + 1) [])).length ∧ Wd - min (colsC (L.getD k [])) Wd < min ((itemsC (L.getD (k + 1) [])).getD 0 (0, [])).1 Wd from fun h => by
            obtain ⟨ba2, oa2, e2, hb2, _, C2, q2, tv2, hC2, ht2⟩ := hh (k + 1) (by rw [← HM.out]; exact h)
            cases e2
            subst hC2
            have q3 := HOK.out.next k (by rw [← HM.out]; exact h)
            exact ⟨tv2, by have := q2 0 (by decide); simpa [show rowE.size = 1 from rfl] using this, ht2, q3.1, q3.2⟩)
          have hcol := rcols_any _ tv (L.getD k []) wq ht (Nat.le_trans (HOK.out.short k) (by have := HN.out; omega)) (HBD.out k)
          have hcr := HOK.out.room k (by rw [← HM.out]; exact hlt)
          have hcb := colsC_bd (L.getD k [])
          have HTK := Lib.hid (flat_step L k (by rw [← HM.out]; exact hlt))
          have hsh := HOK.out.short k
          have hfl : ((L.take k).flatten).length ≤ 300 := by
            have e := congrArg List.length HOK.out.flat
            have h9 : ((L.take k).flatten).length ≤ L.flatten.length := by
              have e3 := congrArg List.flatten (List.take_append_drop k L)
              rw [List.flatten_append] at e3
              rw [← e3, List.length_append]
              omega
            have := HN.out
            omega
          obtain ⟨T, hT⟩ : ∃ T, T = L.getD k [] := ⟨_, rfl⟩
          rw [show L.getD k rowE.zero = L.getD k [] from rfl] at ht
          rw [← hT] at ht hcol hcr hcb HTK hsh HNX
          obtain ⟨FL, hFL⟩ : ∃ FL, FL = (L.take k).flatten := ⟨_, rfl⟩
          rw [← hFL] at HO HTK hfl
          obtain ⟨cc, hcc⟩ : ∃ cc, cc = colsC T := ⟨_, rfl⟩
          rw [← hcc] at hcol hcr hcb HNX
          have HT := Lib.hid ht
          have HAL := Lib.hid (show FL.length ≤ 300 ∧ T.length ≤ 300 from ⟨hfl, by have := HN.out; omega⟩)
          have HCC := Lib.hid (show 0 ≤ cc ∧ cc ≤ 1000 from ⟨hcb.1, by have := HN.out; omega⟩)
          have HD1 := Lib.hid d1
          have HBA := Lib.hid hb1
          have hkc : k < c2 := by have := HCAP.out; omega
          have hki : (k : Int) < (m : Int) := by omega
          have hwk : IntKind.i64.wrap ((k : Int) + 1) = (k : Int) + 1 := by rw [IntKind.wrap_i64]; omega
          clear hh q1 ht hb1 hcb hsh hfl hT hFL hcc
          go_wp2_with fail
          refine hcol.mono ?_
          clear hcol
          rintro e w4 ⟨rfl, b4⟩
          have B4 := Lib.hid b4
          clear b4 d1
          by_cases hw1 : 1 < Wd
          · have hg1 : decide (1 < Wd) = true := by simpa using hw1
            have hg2 : decide (Wd < cc) = false := by rw [decide_eq_false_iff_not]; have := hcr hw1; omega
            clear hcr hw1
            by_cases hmr : k + 1 < m
            · have hmi : decide ((k : Int) + 1 < (m : Int)) = true := by rw [decide_eq_true_eq]; omega
              obtain ⟨tv2, d2, hT2, hit, hnx⟩ := HNX.out hmr
              have d2 := (B4.out.cell (p := ⟨ba, oa + (k + 1), none⟩) HBA.out).trans d2
              have hI := ritems_any _ tv2 _ w4 (hT2.below B4.out) (Nat.le_trans (HOK.out.short (k + 1)) (by have := HN.out; omega)) (HBD.out (k + 1))
              obtain ⟨IT, hIT⟩ : ∃ IT, IT = itemsC (L.getD (k + 1) []) := ⟨_, rfl⟩
              rw [← hIT] at hit hnx hI
              have hc2 : k + 1 < c2 := by have := HCAP.out; omega
              have HIT := Lib.hid hit
              have HNXX := Lib.hid hnx
              clear hT2 hIT hit hnx
              go_wp2_with fail
              refine hI.mono ?_
              clear hI
              rintro e w5 ⟨v5, rfl, ho5, b5⟩
              have hh5 := ho5.held (fun b h _ => h)
              obtain ⟨a5, c5, rfl⟩ := hh5.len
              obtain ⟨hi1, hi2⟩ := (itm_at hh5).2
              obtain ⟨b6, o6, tv6, e6, hb6, _, d6, _, _⟩ := hi2 0 HIT.out
              subst e6
              rw [Nat.zero_mul, Nat.add_zero] at d6
              have HNI := Lib.hid HNXX.out
              obtain ⟨wd, hwd⟩ : ∃ wd, wd = (IT.getD 0 (0, [])).1 := ⟨_, rfl⟩
              rw [← hwd] at d6 HNI
              obtain ⟨il, hil⟩ : ∃ il, il = IT.length := ⟨_, rfl⟩
              have hil0 : 0 < il := by rw [hil]; exact HIT.out
              rw [← hil] at hi1 ⊢
              have hz1 : ((il : Int) == 0) = false := by rw [beq_eq_false_iff_ne]; omega
              have hz2 : 0 < c5 := by omega
              have hwr : IntKind.i64.wrap (Wd - min cc Wd) = Wd - min cc Wd := by rw [IntKind.wrap_i64]; have := HWD.out; have := HCC.out; omega
              have hle : decide (min wd Wd ≤ Wd - min cc Wd) = false := by rw [decide_eq_false_iff_not]; have := HNI.out; omega
              have HO5 := Lib.hid (HO.out.below (B4.out.trans (b5.mono B4.out.size)))
              have HT5 := Lib.hid (HT.out.below (B4.out.trans (b5.mono B4.out.size)))
              have B5 := Lib.hid (HBW.out.trans ((B4.out.trans (b5.mono B4.out.size)).mono HBW.out.size))
              have d1 := ((B4.out.trans (b5.mono B4.out.size)).cell (p := ⟨ba, oa + k, none⟩) HBA.out).trans HD1.out
              have HU5 := Lib.hid (HT5.out.apart (v := av) (w' := w5) HO5.out.lt)
              clear ho5 hh5 hi2 hwd hil hi1 b5 hb6
              go_wp2_with (at_builtin; refine wpList_append_e (E := intE .i32) (Z := fun _ => True) rfl (.tmp 82) (.tmp 86) 22 rfl (.int .i32 0) 4 Try.underlying22 info_tx rfl (by decide) rfl rfl HO5.out HU5.out (by have := HAL.out; omega) (by have := HAL.out; omega) B5.out.size ?_)
              intro v6 w6 ho6 b6 _ _
              rw [← HTK.out] at ho6
              have HF1 := Lib.hid ho6
              have HF2 := Lib.hid (B5.out.trans b6)
              clear ho6 b6
              go_wp2
              go_roundw
              case rel => exact ⟨k + 1, by omega, by go_num, HF1.out, HF2.out⟩
              case measure => simp [intOf] <;> omega
            · have hmi : decide ((k : Int) + 1 < (m : Int)) = false := by rw [decide_eq_false_iff_not]; omega
              have HO5 := Lib.hid (HO.out.below B4.out)
              have HT5 := Lib.hid (HT.out.below B4.out)
              have B5 := Lib.hid (HBW.out.trans (B4.out.mono HBW.out.size))
              have d1 := (B4.out.cell (p := ⟨ba, oa + k, none⟩) HBA.out).trans HD1.out
              have HU5 := Lib.hid (HT5.out.apart (v := av) (w' := w4) HO5.out.lt)
              go_wp2_with (at_builtin; refine wpList_append_e (E := intE .i32) (Z := fun _ => True) rfl (.tmp 82) (.tmp 86) 22 rfl (.int .i32 0) 4 Try.underlying22 info_tx rfl (by decide) rfl rfl HO5.out HU5.out (by have := HAL.out; omega) (by have := HAL.out; omega) B5.out.size ?_)
              intro v6 w6 ho6 b6 _ _
              rw [← HTK.out] at ho6
              have HF1 := Lib.hid ho6
              have HF2 := Lib.hid (B5.out.trans b6)
              clear ho6 b6
              go_wp2
              go_roundw
              case rel => exact ⟨k + 1, by omega, by go_num, HF1.out, HF2.out⟩
              case measure => simp [intOf] <;> omega
          · have hg1 : decide (1 < Wd) = false := by simpa using hw1
            clear hcr hw1
            by_cases hmr : k + 1 < m
            · have hmi : decide ((k : Int) + 1 < (m : Int)) = true := by rw [decide_eq_true_eq]; omega
              obtain ⟨tv2, d2, hT2, hit, hnx⟩ := HNX.out hmr
              have d2 := (B4.out.cell (p := ⟨ba, oa + (k + 1), none⟩) HBA.out).trans d2
              have hI := ritems_any _ tv2 _ w4 (hT2.below B4.out) (Nat.le_trans (HOK.out.short (k + 1)) (by have := HN.out; omega)) (HBD.out (k + 1))
              obtain ⟨IT, hIT⟩ : ∃ IT, IT = itemsC (L.getD (k + 1) []) := ⟨_, rfl⟩
              rw [← hIT] at hit hnx hI
              have hc2 : k + 1 < c2 := by have := HCAP.out; omega
              have HIT := Lib.hid hit
              have HNXX := Lib.hid hnx
              clear hT2 hIT hit hnx
              go_wp2_with fail
              refine hI.mono ?_
              clear hI
              rintro e w5 ⟨v5, rfl, ho5, b5⟩
              have hh5 := ho5.held (fun b h _ => h)
              obtain ⟨a5, c5, rfl⟩ := hh5.len
              obtain ⟨hi1, hi2⟩ := (itm_at hh5).2
              obtain ⟨b6, o6, tv6, e6, hb6, _, d6, _, _⟩ := hi2 0 HIT.out
              subst e6
              rw [Nat.zero_mul, Nat.add_zero] at d6
              have HNI := Lib.hid HNXX.out
              obtain ⟨wd, hwd⟩ : ∃ wd, wd = (IT.getD 0 (0, [])).1 := ⟨_, rfl⟩
              rw [← hwd] at d6 HNI
              obtain ⟨il, hil⟩ : ∃ il, il = IT.length := ⟨_, rfl⟩
              have hil0 : 0 < il := by rw [hil]; exact HIT.out
              rw [← hil] at hi1 ⊢
              have hz1 : ((il : Int) == 0) = false := by rw [beq_eq_false_iff_ne]; omega
              have hz2 : 0 < c5 := by omega
              have hwr : IntKind.i64.wrap (Wd - min cc Wd) = Wd - min cc Wd := by rw [IntKind.wrap_i64]; have := HWD.out; have := HCC.out; omega
              have hle : decide (min wd Wd ≤ Wd - min cc Wd) = false := by rw [decide_eq_false_iff_not]; have := HNI.out; omega
              have HO5 := Lib.hid (HO.out.below (B4.out.trans (b5.mono B4.out.size)))
              have HT5 := Lib.hid (HT.out.below (B4.out.trans (b5.mono B4.out.size)))
              have B5 := Lib.hid (HBW.out.trans ((B4.out.trans (b5.mono B4.out.size)).mono HBW.out.size))
              have d1 := ((B4.out.trans (b5.mono B4.out.size)).cell (p := ⟨ba, oa + k, none⟩) HBA.out).trans HD1.out
              have HU5 := Lib.hid (HT5.out.apart (v := av) (w' := w5) HO5.out.lt)
              clear ho5 hh5 hi2 hwd hil hi1 b5 hb6
              go_wp2_with (at_builtin; refine wpList_append_e (E := intE .i32) (Z := fun _ => True) rfl (.tmp 82) (.tmp 86) 22 rfl (.int .i32 0) 4 Try.underlying22 info_tx rfl (by decide) rfl rfl HO5.out HU5.out (by have := HAL.out; omega) (by have := HAL.out; omega) B5.out.size ?_)
              intro v6 w6 ho6 b6 _ _
              rw [← HTK.out] at ho6
              have HF1 := Lib.hid ho6
              have HF2 := Lib.hid (B5.out.trans b6)
              clear ho6 b6
              go_wp2
              go_roundw
              case rel => exact ⟨k + 1, by omega, by go_num, HF1.out, HF2.out⟩
              case measure => simp [intOf] <;> omega
            · have hmi : decide ((k : Int) + 1 < (m : Int)) = false := by rw [decide_eq_false_iff_not]; omega
              have HO5 := Lib.hid (HO.out.below B4.out)
              have HT5 := Lib.hid (HT.out.below B4.out)
              have B5 := Lib.hid (HBW.out.trans (B4.out.mono HBW.out.size))
              have d1 := (B4.out.cell (p := ⟨ba, oa + k, none⟩) HBA.out).trans HD1.out
              have HU5 := Lib.hid (HT5.out.apart (v := av) (w' := w4) HO5.out.lt)
              go_wp2_with (at_builtin; refine wpList_append_e (E := intE .i32) (Z := fun _ => True) rfl (.tmp 82) (.tmp 86) 22 rfl (.int .i32 0) 4 Try.underlying22 info_tx rfl (by decide) rfl rfl HO5.out HU5.out (by have := HAL.out; omega) (by have := HAL.out; omega) B5.out.size ?_)
              intro v6 w6 ho6 b6 _ _
              rw [← HTK.out] at ho6
              have HF1 := Lib.hid ho6
              have HF2 := Lib.hid (B5.out.trans b6)
              clear ho6 b6
              go_wp2
              go_roundw
              case rel => exact ⟨k + 1, by omega, by go_num, HF1.out, HF2.out⟩
              case measure => simp [intOf] <;> omega
        · obtain rfl : k = m := by omega
          have ho := HO.out
          rw [show (L.take k).flatten = xs from by rw [HM.out, List.take_length]; exact HOK.out.flat] at ho
          have h9 := same_any av (.slice ao _ ca) xs xs wq (ho.held (Z := fun _ => True) (fun _ _ _ => trivial)).ints (HV.out.below (B2.out.trans (HBW.out.mono B2.out.size))).ints (by have := HN.out; omega)
          rw [sameB_self] at h9
          have HB9 := Lib.hid (B2.out.trans (HBW.out.mono B2.out.size))
          clear ho
          go_wp2_with fail
          refine h9.mono ?_
          clear h9
          rintro e w4 ⟨rfl, b4⟩
          have HF := Lib.hid (HB9.out.trans (b4.mono HB9.out.size))
          clear b4
          go_wp2
          go_ret
          exact ⟨(ret_eq (by first | rfl | (simp <;> omega))), HF.out⟩
set_option maxRecDepth 100000 in
theorem walk {H : Type} {enc : TypeId × Value → H} (W : World) (v : Value) {base : Nat} {d : DataW H} {p : List MemPlace} (hv : Value.okWide Try.prog W .any base 22 v) (h : DataW.Trod enc Try.prog W 0 (fun _ => true) true 22 v d p) (Wd : Int) (hw : (Lit.int .i64 Wd).wf = true) : Calls Try.prog 7 #[v, .int .i64 Wd] W (Yes W) := by
  obtain ⟨xs, hx, hr⟩ := runes_arg hv h
  by_cases hl : 300 < xs.length
  · obtain ⟨ao, ca, rfl⟩ := hx.len
    clear hv h hx hr
    go_enter Try.func7, Try.ntmps7
    go_wp2_with fail
    refine (works22_any _).mono ?_
    rintro e w1 ⟨rfl, b1⟩
    go_wp2_with fail
    refine (works22_any _).mono ?_
    rintro e w2 ⟨rfl, b2⟩
    have B := b1.trans (b2.mono b1.size)
    go_wp2
    go_ret
    exact ⟨(ret_eq (by first | rfl | (simp <;> omega))), B⟩
  · exact tailN W v xs Wd hx hr (by omega)

set_option maxRecDepth 100000 in
theorem lifted (os : Os) (started : os.Started) (H : Type) (enc : TypeId × Value → H) :
    ReturnsInHanded {} Try.checked os 7 .any (Rows.fitlineFitsSpec.pre6 enc Try.prog Try.f7 Rows.fitlineFitsRow.domain false) (Rows.fitlineFitsSpec.post enc Try.prog Try.f7 false true false false) := by
  refine law_frame_plain (C := Try.checked) (tb := 4) (by kernel_rfl) started (by kernel_rfl) Try.func7 (by kernel_rfl) (by kernel_rfl) Try.underlying4 rfl
    (by rw [Try.params7]; intro t ht; simp at ht; rcases ht with rfl | rfl <;> exact ⟨by kernel_rfl, of_decide_eq_true (by kernel_rfl)⟩)
    (by rw [Try.params7]; intro ds hd; match ds, hd with | [_, _], _ => rfl)
    (ChangeSpec.witness6 (enc := enc) (C := Try.checked) false ⟨#[], #[.slice none 0 0, .int .i64 0], []⟩ 8 (by kernel_rfl) (by kernel_rfl) (by kernel_rfl) (by kernel_rfl)) ?_
  intro W base args ds before hval hA
  rw [Try.params7] at hA hval
  obtain ⟨v0, vs0, d0, ds0, p0, q0, hargs, rfl, rfl, h0, r0⟩ := trodAll_cons hA
  obtain ⟨v1, vs1, d1, ds1, p1, q1, rfl, rfl, rfl, h1, r1⟩ := trodAll_cons r0
  obtain ⟨rfl, rfl, rfl⟩ := trodAll_nil r1
  obtain rfl : args = #[v0, v1] := by cases args; simp_all
  obtain ⟨x1, rfl, rfl, rfl, wx1⟩ := open_int Try.underlying3 (hval 1 3 v1 rfl rfl) h1
  exact walk W v0 (hval 0 22 v0 rfl rfl) h0 x1 wx1

theorem proved : Rows.FitlineFitsSaid :=
  OpenClaim.holds_of_wide 7 Try.f7 rfl rfl rfl rfl rfl rfl rfl ⟨rfl, rfl, rfl, rfl, rfl⟩ rfl rfl rfl rfl rfl (by kernel_rfl) Try.func7 (by kernel_rfl)
    (of_decide_eq_true (by kernel_rfl)) (by unfold Func.isWrapper; first | (rw [if_pos (by decide +kernel)]; kernel_rfl) | (rw [if_neg (by decide +kernel)]; exact ⟨rfl, rfl⟩))
    (fun os started H enc _ => lifted os started H enc)
#print axioms proved

end Go.Proofs.Ytgkcobmbdpgceaa.lawFitlineFits
