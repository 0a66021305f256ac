/- The reference's Find (30). -/
import Derived.Test.YtmclmhdlnlcafaaDoorFndM
import Derived.Test.YtmclmhdlnlcafaaDoorMg1
namespace Go.Proofs.YtmclmhdlnlcafaaDoor
open Go.RowKit Go.ChangeShapes Go.WideShapes
theorem items_wide (L : List Cl) : ∀ c ∈ itemsL L, c.1 = 1 ∨ c.1 = 2 := by
  intro c hc
  unfold itemsL at hc
  obtain ⟨d, _, hd⟩ := List.mem_flatMap.1 hc
  unfold itemOf at hd
  split at hd
  · have := List.mem_singleton.1 hd; subst this; exact .inl rfl
  · split at hd
    · have := List.mem_singleton.1 hd; subst this; exact .inr rfl
    · exact absurd hd (List.not_mem_nil)
theorem items_texts (L : List Cl) (n : Nat) (h : ∀ k, k < L.length → (L.getD k zc).2.length ≤ n) : ∀ k, k < (itemsL L).length → ((itemsL L).getD k zc).2.length ≤ n := by
  intro k hk
  have hm : (itemsL L).getD k zc ∈ itemsL L := by
    rw [List.getD_eq_getElem?_getD, List.getElem?_eq_getElem hk]
    exact List.getElem_mem hk
  obtain ⟨c, hc⟩ : ∃ c, c = (itemsL L).getD k zc := ⟨_, rfl⟩
  rw [← hc] at hm ⊢
  unfold itemsL at hm
  obtain ⟨d, hd, hcd⟩ := List.mem_flatMap.1 hm
  obtain ⟨i, hi, rfl⟩ := List.getElem_of_mem hd
  have := h i hi
  rw [List.getD_eq_getElem?_getD, List.getElem?_eq_getElem hi, Option.getD_some] at this
  unfold itemOf at hcd
  split at hcd
  · have e := List.mem_singleton.1 hcd; rw [e]; exact this
  · split at hcd
    · have e := List.mem_singleton.1 hcd; rw [e]; exact this
    · exact absurd hcd (List.not_mem_nil)
theorem got_drop (M : List Cl) (A T : List Int) (k : Nat) (h : k < M.length) : gotF (M.drop k) A T = if (M.getD k zc).2 = [] ∨ T.length ≤ A.length then A else gotF (M.drop (k + 1)) (A ++ (M.getD k zc).2) T := by
  rw [List.drop_eq_getElem_cons h]
  have : M.getD k zc = M[k] := by simp [List.getD, List.getElem?_eq_getElem h]
  rw [this]
  rfl
theorem rfind_drop (M : List Cl) (T : List Int) (col : Int) (k : Nat) (h : k < M.length) : rfindF T (M.drop k) col = if 0 < T.length ∧ gotF (M.drop k) [] T = T then col else rfindF T (M.drop (k + 1)) (col + (M.getD k zc).1) := by
  have : M.getD k zc = M[k] := by simp [List.getD, List.getElem?_eq_getElem h]
  rw [this, List.drop_eq_getElem_cons h]
  rfl
set_option maxRecDepth 100000 in
set_option maxHeartbeats 3000000 in
theorem r30find_any (Z Y : Zone) (v u : Value) (L : List Cl) (T : List Int) (w : World) (hv : HeldE cellE Z w v L) (hu : HeldE (intE .i32) Y w u T) (hl0 : L.length ≤ 1000000) (ht : ∀ k, k < L.length → (L.getD k zc).2.length ≤ 1000000000) (htl : T.length ≤ 1000000000) : Calls Tryd.prog 24 #[v, u] w (Gives w (.int .i64 (rfindF T (itemsL L) 0))) := by
  have HQ := Lib.hid (rof29_any (fun _ => True) _ L w (fun _ _ => trivial) (hv.zone (fun _ _ _ => trivial)) hl0)
  have HT := Lib.hid (items_texts L _ ht)
  have HW := Lib.hid (items_wide L)
  have hml := items_len L
  obtain ⟨M, hM⟩ : ∃ M, M = itemsL L := ⟨_, rfl⟩
  rw [← hM] at HQ HT HW hml ⊢
  have HU := Lib.hid hu
  obtain ⟨ua, uc, rfl⟩ := hu.len
  have hmm : M.length ≤ 1000000 := by omega
  clear hM hv hu ht hml hl0
  go_enter Tryd.func24, Tryd.ntmps24
  go_wp2_with fail
  refine HQ.out.mono ?_
  rintro e w1 ⟨v1, rfl, ho1, b1⟩
  have hv := ho1.held (fun _ _ _ => trivial)
  have HB := Lib.hid b1
  have HU1 := Lib.hid (HU.out.below b1)
  clear ho1 b1 HQ HU
  have hv := hv.zone (Y := fun b => b < w1.heap.size) (fun b hb _ => hb)
  obtain ⟨ao, cap, rfl⟩ := hv.len
  obtain ⟨_, _, hc⟩ := cells_at hv
  have HC := Lib.hid hc
  clear hc hv
  obtain ⟨R, hR⟩ : ∃ R, R = rfindF T M 0 := ⟨_, rfl⟩
  rw [← hR]
  have HR := Lib.hid hR
  clear hR
  go_wp2
  go_loopw [6, 7] (fun cv i wr => ∃ (k : Nat) (c : Int), k ≤ M.length ∧ i = .int .i64 k ∧ cv = .int .i64 c ∧ 0 ≤ c ∧ c ≤ 2 * k ∧ Go.RowKit.Hid (R = rfindF T (M.drop k) c) ∧ Below w1.heap.size w1 wr) (fun _ i _ => M.length - (intOf i).toNat)
  case atStart => exact ⟨0, 0, Nat.zero_le _, rfl, rfl, Int.le_refl _, Int.le_refl _, HR, Below.refl _ _⟩
  case round =>
    obtain ⟨k, c, hk, rfl, rfl, hc0, hc1, HF, hbw⟩ := hrel
    have HBW := Lib.hid hbw
    clear hbw
    by_cases hlt : k < M.length
    · have hrd := rfind_drop M T c k hlt
      rw [← HF.out] at hrd
      have hwd : (M.getD k zc).1 = 1 ∨ (M.getD k zc).1 = 2 := HW.out _ (by
        rw [List.getD_eq_getElem?_getD, List.getElem?_eq_getElem hlt]
        exact List.getElem_mem hlt)
      obtain ⟨W, hW⟩ : ∃ W, W = (M.getD k zc).1 := ⟨_, rfl⟩
      rw [← hW] at hrd hwd
      obtain ⟨bb, boff, bv, e0, hbb, _, bc0, _, _⟩ := HC.out k hlt
      rw [← hW] at bc0
      have HF0 := Lib.hid (show ∀ w2, Below w1.heap.size w1 w2 → w2.cell? ⟨bb, boff + k * 2, none⟩ = some (.int .i64 W) from fun w2 h => (h.cell (p := ⟨bb, boff + k * 2, none⟩) hbb).trans bc0)
      subst e0
      have HRD := Lib.hid hrd
      clear hrd hW bc0 hbb HF
      obtain ⟨wo, hwo⟩ : ∃ wo, wo = wr := ⟨_, rfl⟩
      subst hwo
      go_wp2
      go_loopw [8, 9] (fun t j wr => ∃ (i : Nat) (A : List Int), k ≤ i ∧ i ≤ M.length ∧ j = .int .i64 i ∧ OwnE (intE .i32) (fun _ => True) wr w1.heap.size 21 t A ∧ A.length ≤ 2000000000 ∧ Go.RowKit.Hid (gotF (M.drop k) [] T = gotF (M.drop i) A T) ∧ Below w1.heap.size w1 wr) (fun _ j _ => M.length - (intOf j).toNat)
      case atStart => exact ⟨k, [], Nat.le_refl _, hk, rfl, OwnE.nil _ _ _ _ _, Nat.zero_le _, Lib.hid rfl, HBW.out⟩
      case round =>
        obtain ⟨i, A, hki, hi, rfl, hown, hal, HG, hbx⟩ := hrel
        have HBX := Lib.hid hbx
        have HO := Lib.hid hown
        obtain ⟨t, htt⟩ : ∃ t, t = u8 := ⟨_, rfl⟩
        rw [← htt] at HO ⊢
        clear hbx hown htt
        have hf0 := HF0.out wr HBX.out
        by_cases hgo : i < M.length ∧ (M.getD i zc).2 ≠ [] ∧ A.length < T.length
        · obtain ⟨hilt, hne, hat⟩ := hgo
          have hg := got_drop M A T i hilt
          rw [if_neg (by rintro (e | e); exact hne e; omega), ← HG.out] at hg
          have hxl := HT.out i hilt
          obtain ⟨b, off, tv, e1, hb, _, c0, c1, hh⟩ := HC.out i hilt
          cases e1
          obtain ⟨⟨K, X⟩, hKX⟩ : ∃ y, y = M.getD i zc := ⟨_, rfl⟩
          rw [← hKX] at hh hg hne hxl
          simp only at hh hg hne hxl
          have hx0 : 0 < X.length := List.length_pos_iff.2 hne
          have HX := Lib.hid (hh.below HBX.out)
          have c1 := (HBX.out.cell (p := ⟨bb, boff + i * 2 + 1, none⟩) hb).trans c1
          obtain ⟨xa, xc, rfl⟩ := hh.len
          have hlo := HO.out.lt
          have HXX := Lib.hid (HX.out.zone (Y := fun b => True ∧ t.ownBlock ≠ some b) (fun b _ hz => ⟨trivial, fun e => by have := (hlo b e).1; omega⟩))
          have ⟨oa, oc, ho⟩ := (HO.out.held (Z := fun _ => True) (fun _ _ _ => trivial)).len
          have HGG := Lib.hid hg
          have hd1 : decide ((i : Int) < M.length) = true := by rw [decide_eq_true_eq]; omega
          have hd2 : decide ((0 : Int) < X.length) = true := by rw [decide_eq_true_eq]; omega
          have hd3 : decide ((A.length : Int) < T.length) = true := by rw [decide_eq_true_eq]; omega
          clear hKX hh hb hg hlo c0 hf0
          subst ho
          go_wp2_with (at_builtin; refine wpList_append_e (E := intE .i32) (Z := fun _ => True) rfl (.tmp 41) (.tmp 46) 31 rfl (.int .i32 0) 4 Tryd.underlying31 info_rune rfl (Nat.lt_succ_self 0) rfl rfl HO.out HXX.out (by omega) (by omega) HBX.out.size ?_)
          intro v3 w3 ho3 hb3 _ _
          have H2 := Lib.hid ho3
          have HL3 := Lib.hid (show (A ++ X).length ≤ 2000000000 by rw [List.length_append]; omega)
          have H3 := Lib.hid (HBX.out.trans hb3)
          clear ho3 hb3 c1 hd1 hd2 hd3
          go_wp2
          go_roundw
          case rel => exact ⟨i + 1, A ++ X, by omega, by omega, by go_num, H2.out, HL3.out, HGG, H3.out⟩
          case measure => simp [intOf] <;> omega
        · have HGA := Lib.hid (show gotF (M.drop k) [] T = A by
            rw [HG.out]
            by_cases hilt : i < M.length
            · rw [got_drop M A T i hilt, if_pos]
              by_cases hne : (M.getD i zc).2 = []
              · exact .inl hne
              · exact .inr (by
                  rcases Nat.lt_or_ge A.length T.length with h | h
                  · exact absurd ⟨hilt, hne, h⟩ hgo
                  · exact h)
            · rw [List.drop_eq_nil_of_le (by omega)]
              rfl)
          have ⟨oa, oc, ho⟩ := (HO.out.held (Z := fun _ => True) (fun _ _ _ => trivial)).len
          have HHA := Lib.hid ((HO.out.held (Z := fun _ => True) (fun _ _ _ => trivial)).ints)
          have HSM := Lib.hid (same_any _ _ A T wr HHA.out (HU1.out.below HBX.out).ints (by omega))
          subst ho
          have hq : (∃ xa n xc, decide ((i : Int) < M.length) = true ∧ i < M.length ∧ wr.cell? ⟨bb, boff + i * 2 + 1, none⟩ = some (.slice xa n xc) ∧ ((decide ((0 : Int) < n) = false ∧ decide (0 < n) = false ∧ n = 0) ∨ (0 < n ∧ decide ((A.length : Int) < T.length) = false ∧ decide (A.length < T.length) = false))) ∨ i = M.length := by
            by_cases hilt : i < M.length
            · left
              obtain ⟨b, off, tv, e1, hb, _, c0, c1, hh⟩ := HC.out i hilt
              cases e1
              have c1 := (HBX.out.cell (p := ⟨bb, boff + i * 2 + 1, none⟩) hb).trans c1
              obtain ⟨xa, xc, rfl⟩ := hh.len
              refine ⟨xa, _, xc, by rw [decide_eq_true_eq]; omega, hilt, c1, ?_⟩
              by_cases hne : (M.getD i zc).2 = []
              · left
                rw [hne]
                exact ⟨rfl, rfl, rfl⟩
              · right
                have : 0 < (M.getD i zc).2.length := List.length_pos_iff.2 hne
                have hnl : ¬ A.length < T.length := fun h => hgo ⟨hilt, hne, h⟩
                exact ⟨this, by rw [decide_eq_false_iff_not]; omega, by rw [decide_eq_false_iff_not]; omega⟩
            · right; omega
          clear hgo HG HO
          rcases hq with ⟨xa, n, xc, hd1, hilt, c1, ⟨_, _, rfl⟩ | ⟨hd2, hd3, hd3n⟩⟩ | rfl
          all_goals
            rw [HGA.out] at HRD
            by_cases hT : T.length = 0
            · have HRD2 := Lib.hid (show R = rfindF T (M.drop (k + 1)) (c + W) by have h := HRD.out; rwa [if_neg (by omega)] at h)
              obtain rfl : T = [] := List.eq_nil_of_length_eq_zero hT
              have hna : ¬ ((A.length : Int) < 0) := by omega
              clear HRD hT
              try rw [show (([] : List Int).length : Int) = 0 from rfl] at hd3
              try clear hd3n
              go_wp2
              go_roundw
              case rel => exact ⟨k + 1, c + W, by omega, by go_num, by go_num, by omega, by omega, HRD2, HBX.out⟩
              case measure => simp [intOf] <;> omega
            · have hz : 0 < T.length := by omega
              by_cases hs : A = T
              · have hss : sameB A T = true := by unfold sameB; simpa using hs
                have HRD2 := Lib.hid (show R = c by have h := HRD.out; rwa [if_pos ⟨by omega, hs⟩] at h)
                rw [hss] at HSM
                clear HRD hT hs hss
                go_wp2_with fail
                refine HSM.out.mono ?_
                rintro e w4 ⟨rfl, b4⟩
                have HB4 := Lib.hid (HBX.out.trans (b4.mono HBX.out.size))
                clear b4
                go_wp2
                go_ret
                rw [← HR.out, HRD2.out]
                exact ⟨(ret_eq (by first | rfl | (simp <;> omega))), HB.out.trans (HB4.out.mono HB.out.size)⟩
              · have hss : sameB A T = false := by unfold sameB; simpa using hs
                have HRD2 := Lib.hid (show R = rfindF T (M.drop (k + 1)) (c + W) by have h := HRD.out; rwa [if_neg (fun e => hs e.2)] at h)
                rw [hss] at HSM
                clear HRD hT hs hss hf0
                go_wp2_with fail
                refine HSM.out.mono ?_
                rintro e w4 ⟨rfl, b4⟩
                have HB4 := Lib.hid (HBX.out.trans (b4.mono HBX.out.size))
                have hf0 := HF0.out w4 HB4.out
                clear b4
                go_wp2
                go_roundw
                case rel => exact ⟨k + 1, c + W, by omega, by go_num, by go_num, by omega, by omega, HRD2, HB4.out⟩
                case measure => simp [intOf] <;> omega
    · obtain rfl : k = M.length := by omega
      have HRR := Lib.hid (show R = -1 by rw [HF.out, List.drop_length]; rfl)
      go_wp2
      go_ret
      rw [← HR.out, HRR.out]
      exact ⟨(ret_eq (by first | rfl | (simp <;> omega))), HB.out.trans (HBW.out.mono HB.out.size)⟩
end Go.Proofs.YtmclmhdlnlcafaaDoor
