/- The reference's Columns (21); the beginnings of a text. -/
import Derived.Test.YtkpmmkokfllafaaGreatMeaF
import Derived.Test.YtkpmmkokfllafaaGreatMeaE
import Derived.Test.YtkpmmkokfllafaaGreatMg7
namespace Go.Proofs.YtkpmmkokfllafaaGreat
open Go.RowKit Go.ChangeShapes Go.WideShapes
theorem endC_lt (xs : List Int) (i : Nat) : ∀ k, i < k → k ≤ (clS xs).length → endC xs i < endC xs k
  | 0, h, _ => absurd h (Nat.not_lt_zero _)
  | k + 1, h, hk => by
    have h1 := (clS_ok xs k (by omega)).1
    rcases Nat.lt_or_ge i k with h2 | h2
    · have := endC_lt xs i k h2 (by omega); omega
    · have : i = k := by omega
      subst this; exact h1
theorem endC_inj (xs : List Int) (i k : Nat) (hi : i ≤ (clS xs).length) (hk : k ≤ (clS xs).length) (h : endC xs i = endC xs k) : i = k := by
  rcases Nat.lt_trichotomy i k with h1 | h1 | h1
  · have := endC_lt xs i k h1 hk; omega
  · exact h1
  · have := endC_lt xs k i h1 hi; omega
theorem endC_break (xs : List Int) (k : Nat) (h : k < (clS xs).length) : jR (knownL xs) (endC xs k) = false := by
  have hl : (clS xs).length = (startB (jR (knownL xs)) xs.length).length := spansB_len _ (jR_zero _) _
  have : endC xs k ∈ startB (jR (knownL xs)) xs.length := by
    unfold endC
    rw [List.getD, List.getElem?_append_left (by omega), List.getElem?_eq_getElem (by omega)]
    exact List.getElem_mem _
  exact (startB_mem.1 this).2
theorem jR_take (xs : List Int) (a i : Nat) (h : i < a) (ha : a ≤ xs.length) : jR (knownL (xs.take a)) i = jR (knownL xs) i := by
  have e : xs = xs.take a ++ xs.drop a := (List.take_append_drop a xs).symm
  have hl : (xs.take a).length = a := by rw [List.length_take]; omega
  refine jR_congr i fun k hk => ?_
  have := known_left (xs.take a) (xs.drop a) k (by omega)
  rw [← e] at this
  exact this.symm
/-- The clusters of a beginning that ends with a cluster. -/
theorem clS_take (xs : List Int) (k : Nat) (h : k ≤ (clS xs).length) : clS (xs.take (endC xs k)) = (clS xs).take k := by
  have hle := endC_le xs k h
  have hl : (xs.take (endC xs k)).length = endC xs k := by rw [List.length_take]; omega
  have e1 : clS (xs.take (endC xs k)) = spansB (jR (knownL xs)) (endC xs k) := by
    unfold clS
    rw [hl]
    exact spansB_congr _ _ _ fun i hi => jR_take xs _ i hi hle
  rw [e1]
  rcases Nat.eq_or_lt_of_le h with hk | hk
  · subst hk
    rw [endC_last, List.take_length]
    rfl
  · have hj := endC_break xs k hk
    have hlt : endC xs k < xs.length := by
      have := endC_lt xs k _ hk (Nat.le_refl _)
      rw [endC_last] at this
      exact this
    obtain ⟨b, hb⟩ : ∃ b, xs.length = endC xs k + (b + 1) := ⟨xs.length - endC xs k - 1, by omega⟩
    have hc := spansB_cut (jR (knownL xs)) (endC xs k) b hj
    rw [← hb] at hc
    obtain ⟨m, hm⟩ : ∃ m, m = (spansB (jR (knownL xs)) (endC xs k)).length := ⟨_, rfl⟩
    have hp : (clS xs).take m = spansB (jR (knownL xs)) (endC xs k) := by
      unfold clS
      rw [hc, hm, List.take_left]
    have hml : m ≤ (clS xs).length := by
      unfold clS
      rw [hc, List.length_append]
      omega
    have hms : m = (startB (jR (knownL xs)) (endC xs k)).length := by rw [hm]; exact spansB_len _ (jR_zero _) _
    have hem : endC xs m = endC xs k := by
      rcases Nat.eq_zero_or_pos m with h0 | h0
      · rw [h0, endC_zero]
        rcases Nat.eq_zero_or_pos (endC xs k) with h1 | h1
        · exact h1.symm
        · exfalso
          have := List.length_pos_of_mem (startB_mem.2 ⟨h1, jR_zero (knownL xs)⟩)
          omega
      · obtain ⟨q, rfl⟩ : ∃ q, m = q + 1 := ⟨m - 1, by omega⟩
        have h2 := spansB_at (jR (knownL xs)) (jR_zero _) (endC xs k) q (by omega)
        have h3 : (spansB (jR (knownL xs)) (endC xs k)).getD q (0, 0) = (clS xs).getD q (0, 0) := by
          rw [← hp]
          simp [List.getD, List.getElem?_take]
        rw [h3, clS_at xs q (by omega), hms] at h2
        have h4 := congrArg Prod.snd h2
        simp only at h4
        rw [← hms] at h4
        rw [h4, List.getD, List.getElem?_append_right (by omega), hms, Nat.sub_self]
        rfl
    rw [← hp, endC_inj xs m k hml (Nat.le_of_lt hk) hem]
theorem cluA_takeE (xs : List Int) (k : Nat) (h : k ≤ (clS xs).length) : cluA (xs.take (endC xs k)) = (cluA xs).take k := by
  unfold cluA
  rw [clS_take xs k h, ← List.map_take]
  refine List.map_congr_left fun p hp => ?_
  obtain ⟨i, hi, hpi⟩ := List.getElem_of_mem hp
  rw [List.length_take] at hi
  have h1 : p = (endC xs i, endC xs (i + 1)) := by
    rw [← clS_at xs i (by omega), ← hpi]
    simp [List.getD, List.getElem?_eq_getElem (show i < (clS xs).length by omega)]
  have h2 : endC xs (i + 1) ≤ endC xs k := by
    rcases Nat.eq_or_lt_of_le (show i + 1 ≤ k by omega) with e | e
    · rw [e]; exact Nat.le_refl _
    · exact Nat.le_of_lt (endC_lt xs _ _ e h)
  have h3 := (clS_ok xs i (by omega)).1
  rw [h1]
  unfold sliceL
  simp only
  rw [List.drop_take, List.take_take]
  congr 1
  omega
theorem cols_take (xs : List Int) (k : Nat) (h : k ≤ (clS xs).length) : colsC (xs.take (endC xs k)) = cumW xs k := by
  unfold colsC cumW
  rw [cluA_takeE xs k h]
/-- What the reference reckons. -/
def rb (xs : List Int) (W : Int) : Nat → Int × Int
  | 0 => (0, 0)
  | i + 1 => if cumW xs i ≤ W then ((endC xs i : Int), cumW xs i) else rb xs W i
def rbC (xs : List Int) (W : Int) : Int × Int := if W < 0 then (0, 0) else rb xs W ((clS xs).length + 1)
theorem cumW_mono (xs : List Int) (i : Nat) : ∀ k, i ≤ k → k ≤ (clS xs).length → cumW xs i ≤ cumW xs k
  | 0, h, _ => by rw [show i = 0 by omega]; exact Int.le_refl _
  | k + 1, h, hk => by
    rcases Nat.eq_or_lt_of_le h with e | e
    · rw [e]; exact Int.le_refl _
    · exact Int.le_trans (cumW_mono xs i k (by omega) (by omega)) (cumW_step xs k (by omega))
theorem rb_stay (xs : List Int) (W : Int) (k : Nat) (h : k < (clS xs).length → W < cumW xs (k + 1)) : ∀ i, k ≤ i → i ≤ (clS xs).length → rb xs W (i + 1) = rb xs W (k + 1)
  | 0, h1, _ => by rw [show k = 0 by omega]
  | i + 1, h1, h2 => by
    rcases Nat.eq_or_lt_of_le h1 with e | e
    · rw [e]
    · have h3 : cumW xs (k + 1) ≤ cumW xs (i + 1) := cumW_mono xs (k + 1) (i + 1) (by omega) h2
      have h4 := h (by omega)
      rw [← rb_stay xs W k h i (by omega) (by omega)]
      show (if cumW xs (i + 1) ≤ W then _ else rb xs W (i + 1)) = _
      rw [if_neg (by omega)]
theorem head_rb {xs : List Int} {W n u : Int} (h : HeadOK xs W n u) : (n, u) = rbC xs W := by
  unfold rbC
  rcases h with ⟨h1, rfl, rfl⟩ | ⟨h1, k, hk, rfl, rfl, h2, h3⟩
  · rw [if_pos h1]
  · rw [if_neg (by omega), rb_stay xs W k h3 _ hk (Nat.le_refl _)]
    show _ = (if cumW xs k ≤ W then _ else _)
    rw [if_pos h2]
theorem head_one {xs : List Int} {W n u : Int} (h : HeadOK xs W n u) : n = (rbC xs W).1 ∧ u = (rbC xs W).2 := by
  have := head_rb h
  rw [← this]
  exact ⟨rfl, rfl⟩
def sumI (L : List (Int × List Int)) : Int := (L.map Prod.fst).sum
theorem sumI_items : ∀ L : List (List Int), sumI (itemsL L) = sumW L
  | [] => rfl
  | T :: L => by
    have ih := sumI_items L
    have hw := wdC_bd T
    unfold sumI itemsL sumW at ih ⊢
    cases hs : silB (T.getD 0 0) with
    | true =>
      rw [List.filter_cons, hs]
      simp only [Bool.not_true, Bool.false_eq_true, if_false, List.map_cons, List.sum_cons]
      rw [ih]
      rcases hw with ⟨_, h⟩ | ⟨h, _⟩
      · rw [h]; omega
      · rw [hs] at h; cases h
    | false =>
      rw [List.filter_cons, hs]
      simp only [Bool.not_false, if_true, List.map_cons, List.sum_cons]
      rw [ih]
theorem items_bd (xs : List Int) (i : Nat) (h : i < (itemsC xs).length) : 0 ≤ ((itemsC xs).getD i (0, [])).1 ∧ ((itemsC xs).getD i (0, [])).1 ≤ 2 := by
  have hm : (itemsC xs).getD i (0, []) ∈ itemsC xs := by
    rw [List.getD, List.getElem?_eq_getElem h]
    exact List.getElem_mem _
  unfold itemsC itemsL at hm
  obtain ⟨T, _, hT⟩ := List.mem_map.1 hm
  unfold itemsC itemsL
  rw [← hT]
  have := wdC_bd T
  simp only
  omega
theorem sumI_take (L : List (Int × List Int)) (k : Nat) (h : k < L.length) : sumI (L.take (k + 1)) = sumI (L.take k) + (L.getD k (0, [])).1 := by
  unfold sumI
  rw [List.take_succ_eq_append_getElem h, List.map_append, List.sum_append]
  simp [List.getD, List.getElem?_eq_getElem h]
theorem sumI_bd (xs : List Int) : ∀ k, k ≤ (itemsC xs).length → 0 ≤ sumI ((itemsC xs).take k) ∧ sumI ((itemsC xs).take k) ≤ 2 * (k : Int)
  | 0, _ => by simp [sumI]
  | k + 1, h => by
    have h1 := sumI_bd xs k (by omega)
    have h2 := items_bd xs k (by omega)
    rw [sumI_take _ _ (by omega)]
    omega
set_option maxRecDepth 100000 in
set_option maxHeartbeats 1600000 in
theorem rcols_any (Z : Zone) (v : Value) (xs : List Int) (w : World) (hx : HeldE (intE .i32) Z w v xs) (hn : xs.length ≤ 1000000) (hr : bounds32 xs) : Calls Tryz.prog 15 #[v] w (Gives w (.int .i64 (colsC xs))) := by
  have HCL := Lib.hid (ritems_any Z v xs w hx hn hr)
  have HBD := Lib.hid (fun k h => items_bd xs k h)
  have HSB := Lib.hid (fun k h => sumI_bd xs k h)
  have HST := Lib.hid (fun k h => sumI_take (itemsC xs) k h)
  have HSA := Lib.hid (show sumI (itemsC xs) = colsC xs from sumI_items _)
  have hil : (itemsC xs).length ≤ 1000000 := by
    have h1 := itemsL_len (cluA xs)
    have h2 := clA_len xs
    have h3 := clS_len xs
    unfold itemsC
    omega
  obtain ⟨ao, ca, rfl⟩ := hx.len
  obtain ⟨L, hL⟩ : ∃ L, L = itemsC xs := ⟨_, rfl⟩
  rw [← hL] at HCL HBD HSB HST HSA hil
  obtain ⟨cc, hcc⟩ : ∃ cc, cc = colsC xs := ⟨_, rfl⟩
  rw [← hcc] at HSA ⊢
  clear hx hr hL hcc
  go_enter Tryz.func15, Tryz.ntmps15
  go_wp2_with fail
  refine HCL.out.mono ?_
  rintro e w1 ⟨v1, rfl, ho1, b1⟩
  have hh1 := ho1.held (Z := fun b => w.heap.size ≤ b) (fun b h _ => h)
  obtain ⟨a1, c1, rfl⟩ := hh1.len
  have hcap := hh1.spots.2.1
  have HH := Lib.hid hh1
  have HB1 := Lib.hid b1
  obtain ⟨m, hm⟩ : ∃ m, m = L.length := ⟨_, rfl⟩
  have HM := Lib.hid hm
  rw [← hm] at HH hcap hil ⊢
  clear ho1 b1 hh1 hm
  go_wp2
  go_loopw [3, 5] (fun nv i wr => ∃ k : Nat, k ≤ m ∧ i = .int .i64 k ∧ nv = .int .i64 (sumI (L.take k)) ∧ Below w1.heap.size w1 wr) (fun _ i _ => m - (intOf i).toNat)
  case atStart => exact ⟨0, Nat.zero_le _, rfl, rfl, Below.refl _ _⟩
  case round =>
    obtain ⟨k, hk, rfl, hnv, hbw⟩ := hrel
    obtain ⟨wk, hwk⟩ : ∃ wk, wk = wr := ⟨_, rfl⟩
    subst hwk
    have HBW := Lib.hid hbw
    clear hbw
    have hsb := HSB.out k (by rw [← HM.out]; exact hk)
    by_cases hlt : k < m
    · obtain ⟨_, _, hc⟩ := itm_at (HH.out.below HBW.out)
      obtain ⟨ba, oa, tv, e1, hb1, _, c0, _, _⟩ := hc k (by rw [← HM.out]; exact hlt)
      subst e1
      have hbd := HBD.out k (by rw [← HM.out]; exact hlt)
      have hst := HST.out k (by rw [← HM.out]; exact hlt)
      obtain ⟨y, hy⟩ : ∃ y, y = (L.getD k (0, [])).1 := ⟨_, rfl⟩
      rw [← hy] at c0 hbd hst
      obtain ⟨s, hs⟩ : ∃ s, s = sumI (L.take k) := ⟨_, rfl⟩
      rw [← hs] at hsb hst hnv
      subst hnv
      have HE := Lib.hid hst
      have hadd : IntKind.i64.wrap (s + y) = s + y := by rw [IntKind.wrap_i64]; omega
      have hwk : IntKind.i64.wrap ((k : Int) + 1) = (k : Int) + 1 := by rw [IntKind.wrap_i64]; omega
      clear hc hst hy hs
      go_wp2
      go_roundw
      case rel => exact ⟨k + 1, by omega, by go_num, by rw [HE.out], HBW.out⟩
      case measure => simp [intOf] <;> omega
    · obtain rfl : k = m := by omega
      rw [List.take_of_length_le (by rw [← HM.out]; exact Nat.le_refl _), HSA.out] at hnv
      subst hnv
      have HF := Lib.hid (HB1.out.trans (HBW.out.mono HB1.out.size))
      go_wp2
      go_ret
      exact ⟨(ret_eq (by first | rfl | (simp <;> omega))), HF.out⟩
end Go.Proofs.YtkpmmkokfllafaaGreat
