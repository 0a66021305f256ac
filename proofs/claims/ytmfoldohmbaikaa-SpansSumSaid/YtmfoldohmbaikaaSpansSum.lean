/- SpansSum (6.2) answers true at every list of lists of spans and every number, and turns nothing. No conditions. -/
import Derived.Test.YtmfoldohmbaikaaSpanR
import Derived.Test.YtmfoldohmbaikaaReg
import Derived.Test.YtmfoldohmbaikaaRows
import Derived.ProofKit
import Derived.Deep.Cut
namespace Go.Proofs.Ytmfoldohmbaikaa.lawSpansSum
open Go.ChangeShapes Go.WideShapes Go.ChangeAt Go.RowKit
def okN (LL : List (List Sp)) : Nat → Bool
  | 0 => true
  | k + 1 => okN LL k && rightN (LL.getD k []) (LL.getD k []).length
theorem okN_in {LL : List (List Sp)} : ∀ k, k ≤ LL.length → (okN LL k = true ↔ ∀ j, j < k → rightN (LL.getD j []) (LL.getD j []).length = true)
  | 0, _ => ⟨fun _ j hj => absurd hj (Nat.not_lt_zero _), fun _ => rfl⟩
  | k + 1, h => by
    unfold okN
    rw [Bool.and_eq_true, okN_in k (by omega)]
    constructor
    · rintro ⟨h1, h2⟩ j hj
      rcases Nat.lt_or_ge j k with h3 | h3
      · exact h1 j h3
      · have : j = k := by omega
        subst this; exact h2
    · intro h1
      exact ⟨fun j hj => h1 j (by omega), h1 k (by omega)⟩
theorem okN_all {LL : List (List Sp)} : okN LL LL.length = true ↔ ∀ T ∈ LL, rightN T T.length = true := by
  rw [okN_in _ (Nat.le_refl _)]
  constructor
  · exact in_getD
  · intro h j hj
    exact h _ (getD_in hj)
def los (LL : List (List Sp)) : List Int := LL.flatMap fun T => T.map (·.1)
theorem los_app (A B : List (List Sp)) : los (A ++ B) = los A ++ los B := by simp [los]
def lowN (LL : List (List Sp)) (AT : List Int) : Nat → Bool
  | 0 => true
  | k + 1 => lowN LL AT k && decide (sumF LL (AT.getD k 0) ≤ 65535)
theorem lowN_all {LL : List (List Sp)} {AT : List Int} : ∀ k, k ≤ AT.length → (lowN LL AT k = true ↔ ∀ j, j < k → sumF LL (AT.getD j 0) ≤ 65535)
  | 0, _ => ⟨fun _ j hj => absurd hj (Nat.not_lt_zero _), fun _ => rfl⟩
  | k + 1, h => by
    unfold lowN
    rw [Bool.and_eq_true, lowN_all k (by omega), decide_eq_true_eq]
    constructor
    · rintro ⟨h1, h2⟩ j hj
      rcases Nat.lt_or_ge j k with h3 | h3
      · exact h1 j h3
      · have : j = k := by omega
        subst this; exact h2
    · intro h1
      exact ⟨fun j hj => h1 j (by omega), h1 k (by omega)⟩
theorem sumF_app (x : Int) (B : List (List Sp)) : ∀ A, sumF (A ++ B) x = sumF A x + sumF B x
  | [] => by simp [sumF]
  | T :: A => by
    show findS T x + sumF (A ++ B) x = findS T x + sumF A x + sumF B x
    rw [sumF_app x B A]; omega
theorem walkS_len : ∀ (R : List Tn) (F : List Sp) (val frm : Int), (walkS F val frm R).length ≤ F.length + R.length
  | [], F, _, _ => Nat.le_refl _
  | t :: R, F, val, frm => by
    have unfoldW : walkS F val frm (t :: R) = if (decide (frm < t.1) && decide (65535 < val)) = true then [] else walkS (if (decide (frm < t.1) && decide (0 < val)) = true then putS F (frm, t.1 - 1, val) else F) (val + t.2) t.1 R := rfl
    rw [unfoldW]
    split
    · simp
    · refine Nat.le_trans (walkS_len R _ _ _) ?_
      split
      · have := putS_len F (frm, t.1 - 1, val)
        simp only [List.length_cons]; omega
      · simp only [List.length_cons]; omega
theorem tAll_len (c : Nat) : ∀ LL : List (List Sp), (∀ T ∈ LL, T.length ≤ c) → (tAll LL).length ≤ c * 2 * LL.length
  | [], _ => Nat.zero_le _
  | T :: LL, h => by
    have h1 := h T (by simp)
    have h2 := tAll_len c LL fun U hU => h U (by simp [hU])
    rw [show tAll (T :: LL) = turnsOf T ++ tAll LL from rfl, List.length_append, turnsOf_len, List.length_cons, Nat.mul_add]
    omega
theorem own_keep {w w' : World} {B e size n : Nat} {v : Value} {xs : List Value} (h : w.ownsRow B e size v n xs) (hk : ∀ g, B ≤ g → g < w.heap.size → w'.heap[g]? = w.heap[g]?) : w'.ownsRow B e size v n xs := by
  refine ⟨h.1, ?_⟩
  rcases h.2 with hn | ⟨g, cap, cur, hv, hg, hh, hrest⟩
  · exact .inl hn
  · exact .inr ⟨g, cap, cur, hv, hg, (hk g hg (Array.getElem?_eq_some_iff.1 hh).1).trans hh, hrest⟩
theorem info_int6 : (Try.prog.info? 3).map (fun i => (i.zero, i.size, i.bytes)) = some (some (.int .i64 0), 1, 8) := by kernel_rfl
set_option maxRecDepth 100000 in
set_option maxHeartbeats 4000000 in
theorem walkH (w : World) (v : Value) (LL : List (List Sp)) (n : Int) (hh : HeldSS w v LL) : Calls Try.prog 11 #[v, .int .i64 n] w (Yes w) := by
  obtain ⟨ao, cap, rfl⟩ := hh.len
  have HH := Lib.hid hh
  clear hh
  by_cases hl : 6 < LL.length
  · go_enter Try.func11, Try.ntmps11
    go_wp2_with fail
    refine (works6_any _).mono ?_
    rintro e w1 ⟨rfl, b1⟩
    go_wp2_with fail
    refine (works6_any _).mono ?_
    rintro e w2 ⟨rfl, b2⟩
    go_wp2
    go_ret
    exact ⟨(ret_eq (by first | rfl | (simp <;> omega))), b1.trans (b2.mono b1.size)⟩
  go_enter Try.func11, Try.ntmps11
  go_wp2_with fail
  refine (works6_any _).mono ?_
  rintro e w1 ⟨rfl, b1⟩
  have HB1 := Lib.hid b1
  clear b1
  go_wp2
  go_loopw [5, 8, 9] (fun okv atv iv wr => ∃ (k m : Nat) (X : List Int), k ≤ LL.length ∧ iv = .int .i64 k ∧ okv = .bool (okN LL k) ∧ Go.RowKit.Hid (X = los (LL.take k)) ∧ Go.RowKit.Hid (m = X.length) ∧ m ≤ 60 * k ∧ wr.ownsRow w.heap.size 3 1 atv m (X.map (Value.int .i64)) ∧ Go.RowKit.Hid (∀ j, j < k → (LL.getD j []).length ≤ 60) ∧ Below w.heap.size w wr) (fun _ _ iv _ => LL.length - (intOf iv).toNat)
  case atStart => exact ⟨0, 0, [], Nat.zero_le _, rfl, rfl, Lib.hid rfl, Lib.hid rfl, Nat.le_refl _, World.ownsRow_nil _ _ _ _, Lib.hid fun j hj => absurd hj (Nat.not_lt_zero _), HB1.out⟩
  case round =>
    obtain ⟨k, m, X, hk, rfl, rfl, HX, HMm, hmk, hown, HLN, hbw⟩ := hrel
    by_cases hlt : k < LL.length
    · obtain ⟨b, off, u, rfl, hb0, c00, hT⟩ := HH.out.spots k hlt
      have c0 := (hbw.cell (p := ⟨b, off + k, none⟩) hb0).trans c00
      have htk := take_one LL k [] hlt
      have hls : (LL.getD k []).length ≤ 60 → ∀ j, j < k + 1 → (LL.getD j []).length ≤ 60 := fun h j hj => by
        rcases Nat.lt_or_ge j k with h1 | h1
        · exact HLN.out j h1
        · have : j = k := by omega
          subst this; exact h
      have hok : okN LL (k + 1) = (okN LL k && rightN (LL.getD k []) (LL.getD k []).length) := rfl
      obtain ⟨T, hTq⟩ : ∃ T, T = LL.getD k [] := ⟨_, rfl⟩
      rw [← hTq] at hT htk hls hok
      obtain ⟨ao', cap', rfl⟩ := hT.len
      clear hTq
      by_cases hT60 : 60 < T.length
      · clear hls htk hok HLN hT c00
        go_wp2
        go_ret
        exact ⟨(ret_eq (by first | rfl | (simp <;> omega))), hbw⟩
      have HLS := Lib.hid (hls (by omega))
      have HTK := Lib.hid htk
      have HT := Lib.hid hT
      have C00 := Lib.hid c00
      have k0 : (0 : Int) ≤ (k : Int) := by omega
      have k1 : (k : Int) < (LL.length : Int) := by omega
      clear hls htk hT c00 HLN
      cases ho : okN LL k with
      | false =>
        rw [ho] at hok
        have HOK := Lib.hid hok
        have HOW := Lib.hid hown
        have HBW := Lib.hid hbw
        clear hok hown hbw ho
        go_wp2
        go_loopw [8, 10] (fun atv jv wr2 => ∃ (j m2 : Nat) (X2 : List Int), j ≤ T.length ∧ jv = .int .i64 j ∧ Go.RowKit.Hid (X2 = X ++ (T.take j).map (·.1)) ∧ Go.RowKit.Hid (m2 = X2.length) ∧ m2 ≤ m + j ∧ wr2.ownsRow w.heap.size 3 1 atv m2 (X2.map (Value.int .i64)) ∧ Below w.heap.size w wr2) (fun _ jv _ => T.length - (intOf jv).toNat)
        case atStart => exact ⟨0, m, X, Nat.zero_le _, rfl, Lib.hid (by simp), HMm, by omega, HOW.out, HBW.out⟩
        case round =>
          obtain ⟨j, m2, X2, hj, rfl, HX2, HM2, hm2, hown2, hb2⟩ := hrel
          have c1 := (hb2.cell (p := ⟨b, off + k, none⟩) hb0).trans C00.out
          by_cases hltj : j < T.length
          · obtain ⟨b2, off2, rfl, hbb, d0, d1, d2⟩ := (HT.out.below hb2).spots j hltj
            have htk2 := take_one T j z3 hltj
            obtain ⟨s, hs⟩ : ∃ s, s = T.getD j z3 := ⟨_, rfl⟩
            rw [← hs] at d0 d1 d2 htk2
            obtain ⟨lo, hi, val⟩ := s
            simp only at d0 d1 d2
            have hS : X2 ++ [lo] = X ++ (T.take (j + 1)).map (·.1) := by rw [htk2, List.map_append, HX2.out, List.append_assoc]; rfl
            have hC : (X2 ++ [lo]).map (Value.int .i64) = X2.map (Value.int .i64) ++ [Value.int .i64 lo] := by simp
            have hNl : m2 + 1 = (X2 ++ [lo]).length := by rw [List.length_append, ← HM2.out]; rfl
            have hbz := hb2.size
            have HS := Lib.hid hS
            have HC := Lib.hid hC
            have HNL := Lib.hid hNl
            have HB2 := Lib.hid hb2
            clear hS hC hNl hs htk2 hb2 HM2 HX2
            go_wp2_with (at_builtin; refine wpList_append_newK wr rfl (.tmp 51) (.tmp 60) 48 rfl w.heap.size 3 (.int .i64 0) 1 8 Try.underlying48 info_int6 rfl (by decide) u8 m2 (X2.map (Value.int .i64)) rfl hown2 [.int .i64 lo] 1 1 wr.heap.size rfl rfl rfl (by intro u hu; simp at hu; rcases hu with rfl; rfl) (by omega) (by omega) hbz ?_)
            intro v' w' hown' hb' hkp
            have HO' := Lib.hid hown'
            have HB' := Lib.hid hb'
            clear hkp hown' hb' hown2
            go_wp2
            go_roundw
            case rel => exact ⟨j + 1, m2 + 1, _, by omega, by go_num, HS, HNL, by omega, by rw [HC.out]; exact HO'.out, HB2.out.trans HB'.out⟩
            case measure => simp [intOf] <;> omega
          · obtain rfl : j = T.length := by omega
            have hx := HX2.out
            rw [List.take_length] at hx
            have HXN := Lib.hid (show X2 = los (LL.take (k + 1)) by rw [hx, HX.out, HTK.out, los_app]; simp [los])
            clear hx
            go_wp2
            go_roundw
            case rel => exact ⟨k + 1, m2, X2, by omega, by go_num, by rw [HOK.out]; try rfl, HXN, HM2, by omega, hown2, HLS, hb2⟩
            case measure => simp [intOf] <;> omega
      | true =>
        rw [ho] at hok
        have hrr := refright_any _ T wr (HT.out.below hbw) (by omega)
        obtain ⟨r, hr⟩ : ∃ r, r = rightN T T.length := ⟨_, rfl⟩
        rw [← hr] at hrr hok
        have HOK := Lib.hid hok
        have HRR := Lib.hid hrr
        clear hok ho hr hrr
        go_wp2_with fail
        refine HRR.out.mono ?_
        rintro e w2 ⟨rfl, bb⟩
        have HOW := Lib.hid (ownsRow_below hown bb)
        have HBW := Lib.hid (hbw.trans (bb.mono hbw.size))
        clear hown hbw bb c0
        go_wp2
        go_loopw [8, 10] (fun atv jv wr2 => ∃ (j m2 : Nat) (X2 : List Int), j ≤ T.length ∧ jv = .int .i64 j ∧ Go.RowKit.Hid (X2 = X ++ (T.take j).map (·.1)) ∧ Go.RowKit.Hid (m2 = X2.length) ∧ m2 ≤ m + j ∧ wr2.ownsRow w.heap.size 3 1 atv m2 (X2.map (Value.int .i64)) ∧ Below w.heap.size w wr2) (fun _ jv _ => T.length - (intOf jv).toNat)
        case atStart => exact ⟨0, m, X, Nat.zero_le _, rfl, Lib.hid (by simp), HMm, by omega, HOW.out, HBW.out⟩
        case round =>
          obtain ⟨j, m2, X2, hj, rfl, HX2, HM2, hm2, hown2, hb2⟩ := hrel
          have c1 := (hb2.cell (p := ⟨b, off + k, none⟩) hb0).trans C00.out
          by_cases hltj : j < T.length
          · obtain ⟨b2, off2, rfl, hbb, d0, d1, d2⟩ := (HT.out.below hb2).spots j hltj
            have htk2 := take_one T j z3 hltj
            obtain ⟨s, hs⟩ : ∃ s, s = T.getD j z3 := ⟨_, rfl⟩
            rw [← hs] at d0 d1 d2 htk2
            obtain ⟨lo, hi, val⟩ := s
            simp only at d0 d1 d2
            have hS : X2 ++ [lo] = X ++ (T.take (j + 1)).map (·.1) := by rw [htk2, List.map_append, HX2.out, List.append_assoc]; rfl
            have hC : (X2 ++ [lo]).map (Value.int .i64) = X2.map (Value.int .i64) ++ [Value.int .i64 lo] := by simp
            have hNl : m2 + 1 = (X2 ++ [lo]).length := by rw [List.length_append, ← HM2.out]; rfl
            have hbz := hb2.size
            have HS := Lib.hid hS
            have HC := Lib.hid hC
            have HNL := Lib.hid hNl
            have HB2 := Lib.hid hb2
            clear hS hC hNl hs htk2 hb2 HM2 HX2
            go_wp2_with (at_builtin; refine wpList_append_newK wr rfl (.tmp 51) (.tmp 60) 48 rfl w.heap.size 3 (.int .i64 0) 1 8 Try.underlying48 info_int6 rfl (by decide) u8 m2 (X2.map (Value.int .i64)) rfl hown2 [.int .i64 lo] 1 1 wr.heap.size rfl rfl rfl (by intro u hu; simp at hu; rcases hu with rfl; rfl) (by omega) (by omega) hbz ?_)
            intro v' w' hown' hb' hkp
            have HO' := Lib.hid hown'
            have HB' := Lib.hid hb'
            clear hkp hown' hb' hown2
            go_wp2
            go_roundw
            case rel => exact ⟨j + 1, m2 + 1, _, by omega, by go_num, HS, HNL, by omega, by rw [HC.out]; exact HO'.out, HB2.out.trans HB'.out⟩
            case measure => simp [intOf] <;> omega
          · obtain rfl : j = T.length := by omega
            have hx := HX2.out
            rw [List.take_length] at hx
            have HXN := Lib.hid (show X2 = los (LL.take (k + 1)) by rw [hx, HX.out, HTK.out, los_app]; simp [los])
            clear hx
            go_wp2
            go_roundw
            case rel => exact ⟨k + 1, m2, X2, by omega, by go_num, by rw [HOK.out]; try rfl, HXN, HM2, by omega, hown2, HLS, hb2⟩
            case measure => simp [intOf] <;> omega
    · obtain rfl : k = LL.length := by omega
      rw [List.take_length] at HX
      have hlen : ∀ T ∈ LL, T.length ≤ 400 := fun T hT => by
        obtain ⟨i, hi, rfl⟩ := List.mem_iff_getElem.1 hT
        have := HLN.out i hi
        rw [show LL.getD i [] = LL[i] from by simp [List.getD, List.getElem?_eq_getElem hi]] at this
        omega
      have HLN := Lib.hid hlen
      have hsum := sum_any _ LL wr (HH.out.below hbw) (by omega) hlen
      have HSUM := Lib.hid hsum
      have HOW := Lib.hid hown
      have HBW := Lib.hid hbw
      clear hsum hown hbw hlen
      cases ho : okN LL LL.length with
      | false =>
        have HO := Lib.hid ho
        clear ho
        go_wp2_with fail
        refine HSUM.out.mono ?_
        rintro e w2 (⟨_, v', n', rfl, hn', ho', hb'⟩ | ⟨hall, _⟩)
        · obtain ⟨fo, fc, rfl⟩ := (heldS_of_owns ho').len
          have hb := HBW.out.trans (hb'.mono HBW.out.size)
          go_wp2
          go_ret
          exact ⟨(ret_eq (by first | rfl | (simp <;> omega))), hb⟩
        · have := okN_all.2 hall
          rw [HO.out] at this
          cases this
      | true =>
        have hall := okN_all.1 ho
        clear ho
        go_wp2_with fail
        refine HSUM.out.mono ?_
        rintro e w2 (⟨⟨T, hT, hf⟩, _⟩ | ⟨_, L', hp, hu, v', n', rfl, hn', ho', hb'⟩)
        · have := hall T hT
          rw [hf] at this
          cases this
        have his := sum_is hall hp hu
        have hml : (walkS [] 0 0 L').length ≤ 999999 := by
          have h1 := walkS_len L' [] 0 0
          have h2 := hp.length_eq
          have h3 := tAll_len 400 LL HLN.out
          simp only [List.length_nil] at h1
          omega
        obtain ⟨M, hM⟩ : ∃ M, M = walkS [] 0 0 L' := ⟨_, rfl⟩
        rw [← hM] at his hml hn' ho'
        have hRM : rightN M M.length = true ∧ fewP M := by
          rcases his with ⟨h1, _⟩ | ⟨h1, h2, _⟩
          · rw [h1]; exact ⟨rfl, fun j hj => by simp at hj⟩
          · exact ⟨h1, h2⟩
        obtain ⟨fo, fc, rfl⟩ := (heldS_of_owns ho').len
        have HIS := Lib.hid his
        have HRM := Lib.hid hRM
        have HOM := Lib.hid ho'
        have hlt8 : ∀ g, wr.heap.size ≤ g → u8.ownBlock ≠ some g := fun g hg e => by have := (HOW.out.lt _ e).2; omega
        have HLT8 := Lib.hid hlt8
        have HOW2 := Lib.hid (ownsRow_below HOW.out hb')
        have HBW2 := Lib.hid (HBW.out.trans (hb'.mono HBW.out.size))
        have HWS := Lib.hid hb'.size
        have HALL := Lib.hid hall
        clear his hRM ho' hn' hp hu hM hb' hall hlt8
        have h1 := refright_any _ M w2 (heldS_of_owns HOM.out) (by omega)
        rw [HRM.out.1] at h1
        have H1 := Lib.hid h1
        clear h1
        go_wp2_with fail
        refine (H1.out).mono ?_
        rintro e w3 ⟨rfl, b3⟩
        have H2 := Lib.hid (few_any _ M w3 ((heldS_of_owns HOM.out).below b3) (by omega) HRM.out.1 HRM.out.2)
        go_wp2_with fail
        refine (H2.out).mono ?_
        rintro e w4 ⟨rfl, b4⟩
        have b34 := b3.trans (b4.mono b3.size)
        have hown4 := ownsRow_below HOW2.out b34
        have HOM4 := Lib.hid (ownsRow_below HOM.out b34)
        have hb4 := HBW2.out.trans (b34.mono HBW2.out.size)
        have hbz := hb4.size
        have HB4 := Lib.hid hb4
        have HS34 := Lib.hid b34.size
        clear b3 b4 b34 hb4
        go_wp2_with (at_builtin; refine wpList_append_newK w4 rfl (.tmp 78) (.tmp 80) 48 rfl w.heap.size 3 (.int .i64 0) 1 8 Try.underlying48 info_int6 rfl (by decide) u8 m (X.map (Value.int .i64)) rfl hown4 [.int .i64 n] 1 1 w4.heap.size rfl rfl rfl (by intro u hu; simp at hu; rcases hu with rfl; rfl) (by omega) (by omega) hbz ?_)
        intro v5 w5 hown5 hb5 hkp
        have hmM : HeldS w5 (.slice fo M.length fc) M := heldS_of_owns (own_keep HOM4.out fun g h1 h2 => hkp g h2 (HLT8.out g h1))
        have hB5 := HB4.out.trans hb5
        obtain ⟨AT, hAT⟩ : ∃ AT, AT = X ++ [n] := ⟨_, rfl⟩
        have hcells : X.map (Value.int .i64) ++ [Value.int .i64 n] = AT.map (Value.int .i64) := by rw [hAT]; simp
        rw [hcells] at hown5
        have hat := held_of_owns hown5
        have hal : AT.length ≤ 1000 := by rw [hAT]; have := HMm.out; simp; omega
        have hx0 : 0 < AT.length := by rw [hAT]; simp
        have hlast : AT.getD (AT.length - 1) 0 = n := by rw [hAT]; simp [List.getD]
        have hlos : ∀ y ∈ los LL, y ∈ AT := fun y hy => by rw [hAT, HX.out]; exact List.mem_append_left _ hy
        obtain ⟨bo, bc, rfl⟩ := hat.len
        have HAT := Lib.hid hat
        have HMM := Lib.hid hmM
        have HB5 := Lib.hid hB5
        have HLAST := Lib.hid hlast
        have HLOS := Lib.hid hlos
        have HH5 := Lib.hid (HH.out.below hB5)
        clear hkp hown5 hb5 hcells hat hAT hmM hB5 hlast hlos hown4 hmk HOM HOM4 H1 H2
        go_wp2
        go_loopw [6, 7, 12] (fun lowv sv kv wr3 => ∃ (k : Nat) (sm : Int), k ≤ AT.length ∧ kv = .int .i64 k ∧ lowv = .bool (lowN LL AT k) ∧ sv = .int .i64 sm ∧ Go.RowKit.Hid (k = 0 ∨ sm = sumF LL (AT.getD (k - 1) 0)) ∧ Below w5.heap.size w5 wr3) (fun _ _ kv _ => AT.length - (intOf kv).toNat)
        case atStart => exact ⟨0, 0, Nat.zero_le _, rfl, rfl, rfl, Lib.hid (.inl rfl), Below.refl _ _⟩
        case round =>
          obtain ⟨k, sm, hk, rfl, rfl, rfl, HSM, hbw⟩ := hrel
          by_cases hltk : k < AT.length
          · obtain ⟨b5, off5, rfl, hb50, d0⟩ := (HAT.out.spots) k hltk
            have hlo : lowN LL AT (k + 1) = (lowN LL AT k && decide (sumF LL (AT.getD k 0) ≤ 65535)) := rfl
            obtain ⟨x, hx⟩ : ∃ x, x = AT.getD k 0 := ⟨_, rfl⟩
            rw [← hx] at d0 hlo
            have HXX := Lib.hid hx
            have HLO := Lib.hid hlo
            have D0 := Lib.hid d0
            have HBW3 := Lib.hid hbw
            have k0 : (0 : Int) ≤ (k : Int) := by omega
            have k1 : (k : Int) < (AT.length : Int) := by omega
            clear hx hlo d0 hbw HSM
            go_wp2
            go_loopw [7, 13] (fun sv iv wr4 => ∃ i : Nat, i ≤ LL.length ∧ iv = .int .i64 i ∧ sv = .int .i64 (sumF (LL.take i) x) ∧ Below w5.heap.size w5 wr4) (fun _ iv _ => LL.length - (intOf iv).toNat)
            case atStart => exact ⟨0, Nat.zero_le _, rfl, rfl, HBW3.out⟩
            case round =>
              obtain ⟨i, hi, rfl, rfl, hbw4⟩ := hrel
              by_cases hlti : i < LL.length
              · obtain ⟨b, off, u, rfl, hb0, c00, hT⟩ := HH5.out.spots i hlti
                have htk := take_one LL i [] hlti
                have hrt := HALL.out _ (getD_in hlti)
                have htl := HLN.out _ (getD_in hlti)
                have hsi := sumF_in x (LL.take i) fun T hT => HALL.out T (List.mem_of_mem_take hT)
                have hsl : (LL.take i).length ≤ 6 := by simp; omega
                obtain ⟨T, hTq⟩ : ∃ T, T = LL.getD i [] := ⟨_, rfl⟩
                rw [← hTq] at hT htk hrt htl
                obtain ⟨ao', cap', rfl⟩ := hT.len
                have hfi := find_in hrt x
                have hsu : sumF (LL.take (i + 1)) x = sumF (LL.take i) x + findS T x := by rw [htk, sumF_app]; simp [sumF]
                obtain ⟨sq, hsq⟩ : ∃ sq, sq = sumF (LL.take i) x := ⟨_, rfl⟩
                obtain ⟨f, hf⟩ : ∃ f, f = findS T x := ⟨_, rfl⟩
                rw [← hsq, ← hf] at hsu
                rw [← hsq] at hsi ⊢
                rw [← hf] at hfi
                have r1 : IntKind.i64.wrap (sq + f) = sq + f := by rw [IntKind.wrap_i64]; omega
                have F1 := Lib.hid fun (w' : World) (hb : Below w5.heap.size w5 w') => reffind_any _ T x w' (hT.below hb) (by omega)
                rw [← hf] at F1
                have HSU := Lib.hid hsu
                have C00 := Lib.hid c00
                have i0 : (0 : Int) ≤ (i : Int) := by omega
                have i1 : (i : Int) < (LL.length : Int) := by omega
                clear hsu hsq hf hfi hsi hTq htk hrt hT c00 hsl htl
                go_wp2_with fail
                obtain ⟨Erg, hErg⟩ : ∃ EE : Nat → Value → World → Prop, EE = fun jj xx ww => match jj with
                    | 0 => xx = .int .i64 sq
                    | 1 => xx = .slice (some ⟨b, off, none⟩) LL.length cap
                    | 2 => xx = .int .i64 i
                    | 3 => xx = .pointer (some ⟨b, off + i, none⟩)
                    | 4 => xx = .slice ao' T.length cap'
                    | 5 => xx = .slice (some ⟨b5, off5, none⟩) AT.length bc
                    | 6 => xx = .int .i64 k
                    | 7 => xx = .pointer (some ⟨b5, off5 + k, none⟩)
                    | 8 => xx = .int .i64 x
                    | 9 => xx = .int .i64 f
                    | 10 => xx = .int .i64 (sq + f)
                    | 11 => xx = .int .i64 (sq + f)
                    | _ => True := ⟨_, rfl⟩
                have erg0 : ∀ xx ww, Erg 0 xx ww = (xx = .int .i64 sq) := fun xx ww => congrFun (congrFun (congrFun hErg 0) xx) ww
                have erg1 : ∀ xx ww, Erg 1 xx ww = (xx = .slice (some ⟨b, off, none⟩) LL.length cap) := fun xx ww => congrFun (congrFun (congrFun hErg 1) xx) ww
                have erg2 : ∀ xx ww, Erg 2 xx ww = (xx = .int .i64 i) := fun xx ww => congrFun (congrFun (congrFun hErg 2) xx) ww
                have erg3 : ∀ xx ww, Erg 3 xx ww = (xx = .pointer (some ⟨b, off + i, none⟩)) := fun xx ww => congrFun (congrFun (congrFun hErg 3) xx) ww
                have erg4 : ∀ xx ww, Erg 4 xx ww = (xx = .slice ao' T.length cap') := fun xx ww => congrFun (congrFun (congrFun hErg 4) xx) ww
                have erg5 : ∀ xx ww, Erg 5 xx ww = (xx = .slice (some ⟨b5, off5, none⟩) AT.length bc) := fun xx ww => congrFun (congrFun (congrFun hErg 5) xx) ww
                have erg6 : ∀ xx ww, Erg 6 xx ww = (xx = .int .i64 k) := fun xx ww => congrFun (congrFun (congrFun hErg 6) xx) ww
                have erg7 : ∀ xx ww, Erg 7 xx ww = (xx = .pointer (some ⟨b5, off5 + k, none⟩)) := fun xx ww => congrFun (congrFun (congrFun hErg 7) xx) ww
                have erg8 : ∀ xx ww, Erg 8 xx ww = (xx = .int .i64 x) := fun xx ww => congrFun (congrFun (congrFun hErg 8) xx) ww
                have erg9 : ∀ xx ww, Erg 9 xx ww = (xx = .int .i64 f) := fun xx ww => congrFun (congrFun (congrFun hErg 9) xx) ww
                have erg10 : ∀ xx ww, Erg 10 xx ww = (xx = .int .i64 (sq + f)) := fun xx ww => congrFun (congrFun (congrFun hErg 10) xx) ww
                have erg11 : ∀ xx ww, Erg 11 xx ww = (xx = .int .i64 (sq + f)) := fun xx ww => congrFun (congrFun (congrFun hErg 11) xx) ww
                obtain ⟨Crg, hCrg⟩ : ∃ CC : Array Bool → World → Prop, CC = fun L w' => Below w5.heap.size w5 w' := ⟨_, rfl⟩
                have krg : ∀ i L w,  Crg L w → Crg (L.setIfInBounds i true) w := by
                  intro i L w  h
                  rw [hCrg] at h ⊢
                  exact h
                obtain ⟨Xrg, hXrg⟩ : ∃ XX : World → World → Prop, XX = fun w w1 => Below w.heap.size w w1 := ⟨_, rfl⟩
                have xrg : ∀ w, Xrg w w := fun w => by rw [hXrg]; exact Below.refl _ _
                have strg : ∀ j x w w1, Xrg w w1 → Erg j x w → Erg j x w1 := by
                  intro j x w w1 hx h
                  rw [hXrg] at hx
                  match j with
                  | 0 => rw [erg0] at h ⊢; exact h
                  | 1 => rw [erg1] at h ⊢; exact h
                  | 2 => rw [erg2] at h ⊢; exact h
                  | 3 => rw [erg3] at h ⊢; exact h
                  | 4 => rw [erg4] at h ⊢; exact h
                  | 5 => rw [erg5] at h ⊢; exact h
                  | 6 => rw [erg6] at h ⊢; exact h
                  | 7 => rw [erg7] at h ⊢; exact h
                  | 8 => rw [erg8] at h ⊢; exact h
                  | 9 => rw [erg9] at h ⊢; exact h
                  | 10 => rw [erg10] at h ⊢; exact h
                  | 11 => rw [erg11] at h ⊢; exact h
                  | j + 12 => rw [hErg]; trivial
                have crg : Crg (Array.replicate 12 false) wr.drew := by rw [hCrg]; exact hbw4.drew
                have brg : ∀ L w w1, Crg L w → Below w.heap.size w w1 → Crg L w1 := by
                  intro L w w1 h hb
                  rw [hCrg] at h ⊢
                  exact h.trans (hb.mono h.size)
                have xbrg : ∀ w w1, Below w.heap.size w w1 → Xrg w w1 := by
                  intro w w1 hb
                  rw [hXrg]
                  exact hb
                have Hrgb := Lib.hid brg
                have Hrgxb := Lib.hid xbrg
                clear brg xbrg
                clear hErg
                have Hrgk := Lib.hid krg
                have Hrgx := Lib.hid xrg
                have Hrgst := Lib.hid strg
                have Hrgc := Lib.hid crg
                have HrghC := Lib.hid hCrg
                have HrghX := Lib.hid hXrg
                have Hrge0 := Lib.hid erg0
                have Hrge1 := Lib.hid erg1
                have Hrge2 := Lib.hid erg2
                have Hrge3 := Lib.hid erg3
                have Hrge4 := Lib.hid erg4
                have Hrge5 := Lib.hid erg5
                have Hrge6 := Lib.hid erg6
                have Hrge7 := Lib.hid erg7
                have Hrge8 := Lib.hid erg8
                have Hrge9 := Lib.hid erg9
                have Hrge10 := Lib.hid erg10
                have Hrge11 := Lib.hid erg11
                clear krg xrg strg crg hCrg hXrg erg0 erg1 erg2 erg3 erg4 erg5 erg6 erg7 erg8 erg9 erg10 erg11
                go_wp2_with fail
                refine Reg.regionF Erg Crg Xrg Hrgst.out (by kernel_rfl) (by kernel_rfl) (by kernel_rfl) Hrgc.out (fun Frg hFrg => ?_)
                simp only [Reg.frame, Reg.dsts, List.map_cons, List.map_nil, Mix.put_lit, Reg.put_none, List.set_cons_succ, List.set_cons_zero, Array.getD, Nat.zero_add, Nat.reduceAdd] at hFrg
                refine ⟨?_, ?_⟩
                · refine ⟨?_, ?_, ?_, ?_, ?_, ?_, ?_, ?_, ?_, ?_, ?_, ?_, trivial⟩
                  · intro Lq wq xq hh
                    have d11 := hh.old 11 (by kernel_rfl)
                    simp only [hFrg, d11]
                    clear d11
                    refine .inl ⟨rfl, ?_⟩
                    unfold Reg.upon
                    have hk := Hrgk.out 0 Lq wq  hh.cls
                    have hx := Hrgx.out wq
                    have he : Erg 0 (.int .i64 sq) wq := by rw [Hrge0.out]
                    have HK := Lib.hid (And.intro hk (And.intro he hx))
                    clear hk hx he
                    go_simp
                    exact HK.out
                  · intro Lq wq xq hh
                    simp only [hFrg]
                    refine .inl ⟨rfl, ?_⟩
                    unfold Reg.upon
                    have hk := Hrgk.out 1 Lq wq  hh.cls
                    have hx := Hrgx.out wq
                    have he : Erg 1 (.slice (some ⟨b, off, none⟩) LL.length cap) wq := by rw [Hrge1.out]
                    have HK := Lib.hid (And.intro hk (And.intro he hx))
                    clear hk hx he
                    go_simp
                    exact HK.out
                  · intro Lq wq xq hh
                    simp only [hFrg]
                    refine .inl ⟨rfl, ?_⟩
                    unfold Reg.upon
                    have hk := Hrgk.out 2 Lq wq  hh.cls
                    have hx := Hrgx.out wq
                    have he : Erg 2 (.int .i64 i) wq := by rw [Hrge2.out]
                    have HK := Lib.hid (And.intro hk (And.intro he hx))
                    clear hk hx he
                    go_simp
                    exact HK.out
                  · intro Lq wq xq hh
                    have d1 : Erg 1 (xq 1) wq := hh.val 1 (by kernel_rfl) (by kernel_rfl)
                    rw [Hrge1.out] at d1
                    have d2 : Erg 2 (xq 2) wq := hh.val 2 (by kernel_rfl) (by kernel_rfl)
                    rw [Hrge2.out] at d2
                    simp only [hFrg, d1, d2]
                    clear d1 d2
                    refine .inl ⟨rfl, ?_⟩
                    unfold Reg.upon
                    have hk := Hrgk.out 3 Lq wq  hh.cls
                    have hx := Hrgx.out wq
                    have he : Erg 3 (.pointer (some ⟨b, off + i, none⟩)) wq := by rw [Hrge3.out]
                    have HK := Lib.hid (And.intro hk (And.intro he hx))
                    clear hk hx he
                    go_simp
                    exact HK.out
                  · intro Lq wq xq hh
                    have d3 : Erg 3 (xq 3) wq := hh.val 3 (by kernel_rfl) (by kernel_rfl)
                    rw [Hrge3.out] at d3
                    simp only [hFrg, d3]
                    clear d3
                    refine .inl ⟨rfl, ?_⟩
                    unfold Reg.upon
                    have hc : Crg Lq wq := hh.cls
                    rw [HrghC.out] at hc
                    have hcell := (hc.cell (p := ⟨b, off + i, none⟩) hb0).trans C00.out
                    clear hc
                    have hk := Hrgk.out 4 Lq wq  hh.cls
                    have hx := Hrgx.out wq
                    have he : Erg 4 (.slice ao' T.length cap') wq := by rw [Hrge4.out]
                    have HK := Lib.hid (And.intro hk (And.intro he hx))
                    clear hk hx he
                    go_simp
                    exact HK.out
                  · intro Lq wq xq hh
                    simp only [hFrg]
                    refine .inl ⟨rfl, ?_⟩
                    unfold Reg.upon
                    have hk := Hrgk.out 5 Lq wq  hh.cls
                    have hx := Hrgx.out wq
                    have he : Erg 5 (.slice (some ⟨b5, off5, none⟩) AT.length bc) wq := by rw [Hrge5.out]
                    have HK := Lib.hid (And.intro hk (And.intro he hx))
                    clear hk hx he
                    go_simp
                    exact HK.out
                  · intro Lq wq xq hh
                    simp only [hFrg]
                    refine .inl ⟨rfl, ?_⟩
                    unfold Reg.upon
                    have hk := Hrgk.out 6 Lq wq  hh.cls
                    have hx := Hrgx.out wq
                    have he : Erg 6 (.int .i64 k) wq := by rw [Hrge6.out]
                    have HK := Lib.hid (And.intro hk (And.intro he hx))
                    clear hk hx he
                    go_simp
                    exact HK.out
                  · intro Lq wq xq hh
                    have d5 : Erg 5 (xq 5) wq := hh.val 5 (by kernel_rfl) (by kernel_rfl)
                    rw [Hrge5.out] at d5
                    have d6 : Erg 6 (xq 6) wq := hh.val 6 (by kernel_rfl) (by kernel_rfl)
                    rw [Hrge6.out] at d6
                    simp only [hFrg, d5, d6]
                    clear d5 d6
                    refine .inl ⟨rfl, ?_⟩
                    unfold Reg.upon
                    have hk := Hrgk.out 7 Lq wq  hh.cls
                    have hx := Hrgx.out wq
                    have he : Erg 7 (.pointer (some ⟨b5, off5 + k, none⟩)) wq := by rw [Hrge7.out]
                    have HK := Lib.hid (And.intro hk (And.intro he hx))
                    clear hk hx he
                    go_simp
                    exact HK.out
                  · intro Lq wq xq hh
                    have d7 : Erg 7 (xq 7) wq := hh.val 7 (by kernel_rfl) (by kernel_rfl)
                    rw [Hrge7.out] at d7
                    simp only [hFrg, d7]
                    clear d7
                    refine .inl ⟨rfl, ?_⟩
                    unfold Reg.upon
                    have hc : Crg Lq wq := hh.cls
                    rw [HrghC.out] at hc
                    have hcell := (hc.cell (p := ⟨b5, off5 + k, none⟩) hb50).trans D0.out
                    clear hc
                    have hk := Hrgk.out 8 Lq wq  hh.cls
                    have hx := Hrgx.out wq
                    have he : Erg 8 (.int .i64 x) wq := by rw [Hrge8.out]
                    have HK := Lib.hid (And.intro hk (And.intro he hx))
                    clear hk hx he
                    go_simp
                    exact HK.out
                  · intro Lq wq xq hh
                    have d4 : Erg 4 (xq 4) wq := hh.val 4 (by kernel_rfl) (by kernel_rfl)
                    rw [Hrge4.out] at d4
                    have d8 : Erg 8 (xq 8) wq := hh.val 8 (by kernel_rfl) (by kernel_rfl)
                    rw [Hrge8.out] at d8
                    simp only [hFrg, d4, d8]
                    clear d4 d8
                    refine .inl ⟨rfl, ?_⟩
                    unfold Reg.upon
                    have hc : Crg Lq wq := hh.cls
                    rw [HrghC.out] at hc
                    go_simp
                    refine (F1.out _ hc).mono ?_
                    rintro e w2 ⟨rfl, hb⟩
                    exact ⟨_, rfl, Hrgk.out 9 Lq w2  (Hrgb.out Lq wq w2 hh.cls hb), (by rw [Hrge9.out]; try rfl), Hrgxb.out wq w2 hb⟩
                  · intro Lq wq xq hh
                    have d0 : Erg 0 (xq 0) wq := hh.val 0 (by kernel_rfl) (by kernel_rfl)
                    rw [Hrge0.out] at d0
                    have d9 : Erg 9 (xq 9) wq := hh.val 9 (by kernel_rfl) (by kernel_rfl)
                    rw [Hrge9.out] at d9
                    simp only [hFrg, d0, d9]
                    clear d0 d9
                    refine .inl ⟨rfl, ?_⟩
                    unfold Reg.upon
                    have hk := Hrgk.out 10 Lq wq  hh.cls
                    have hx := Hrgx.out wq
                    have he : Erg 10 (.int .i64 (sq + f)) wq := by rw [Hrge10.out]
                    have HK := Lib.hid (And.intro hk (And.intro he hx))
                    clear hk hx he
                    go_simp
                    exact HK.out
                  · intro Lq wq xq hh
                    have d10 : Erg 10 (xq 10) wq := hh.val 10 (by kernel_rfl) (by kernel_rfl)
                    rw [Hrge10.out] at d10
                    simp only [hFrg, d10]
                    clear d10
                    refine .inl ⟨rfl, ?_⟩
                    unfold Reg.upon
                    have hk := Hrgk.out 11 Lq wq  hh.cls
                    have hx := Hrgx.out wq
                    have he : Erg 11 (.int .i64 (sq + f)) wq := by rw [Hrge11.out]
                    have HK := Lib.hid (And.intro hk (And.intro he hx))
                    clear hk hx he
                    go_simp
                    exact HK.out
                intro xq wrg hcrg hvrg
                rw [HrghC.out] at hcrg
                simp only [hFrg]
                have vrg11 : Erg 11 (xq 11) wrg := hvrg 11 (by decide)
                rw [Hrge11.out] at vrg11
                rw [vrg11]
                clear hvrg hFrg Hrgk Hrgx Hrgst Hrgc HrghC HrghX Hrgb Hrgxb Hrge0 Hrge1 Hrge2 Hrge3 Hrge4 Hrge5 Hrge6 Hrge7 Hrge8 Hrge9 Hrge10 Hrge11
                have hb9 := hcrg
                clear hcrg
                go_wp2
                go_roundw
                case rel => exact ⟨i + 1, by omega, by go_num, by rw [HSU.out]; try rfl, hb9⟩
                case measure => simp [intOf] <;> omega
              · obtain rfl : i = LL.length := by omega
                rw [List.take_length]
                have hs1 := HLO.out
                have HSM2 := Lib.hid (show k + 1 = 0 ∨ sumF LL x = sumF LL (AT.getD (k + 1 - 1) 0) from .inr (by rw [HXX.out]; rfl))
                obtain ⟨sq, hsq⟩ : ∃ sq, sq = sumF LL x := ⟨_, rfl⟩
                rw [← hsq] at hs1 HSM2 ⊢
                cases ho : lowN LL AT k with
                | false =>
                  rw [ho] at hs1
                  have HS1 := Lib.hid hs1
                  clear hs1 ho hsq
                  go_wp2
                  go_roundw
                  case rel => exact ⟨k + 1, sq, by omega, by go_num, by rw [HS1.out]; try rfl, rfl, HSM2, hbw4⟩
                  case measure => simp [intOf] <;> omega
                | true =>
                  rw [ho] at hs1
                  have HS1 := Lib.hid hs1
                  clear hs1 ho hsq
                  go_wp2
                  go_roundw
                  case rel => exact ⟨k + 1, sq, by omega, by go_num, by rw [HS1.out]; try rfl, rfl, HSM2, hbw4⟩
                  case measure => simp [intOf] <;> omega
          · obtain rfl : k = AT.length := by omega
            have hsm : sm = sumF LL n := by
              rcases HSM.out with h | h
              · omega
              · rw [h, HLAST.out]
            have hb9 := HB5.out.trans (hbw.mono HB5.out.size)
            cases ho : lowN LL AT AT.length with
            | false =>
              have hM0 : M = [] := by
                rcases HIS.out with ⟨h1, _⟩ | ⟨_, _, h3⟩
                · exact h1
                · exfalso
                  have := (lowN_all (LL := LL) (AT := AT) AT.length (Nat.le_refl _)).2 fun j hj => (h3 _).2
                  rw [ho] at this; cases this
              subst hM0
              clear ho HSM hsm
              go_wp2
              go_ret
              exact ⟨(ret_eq (by first | rfl | (simp <;> omega))), hb9⟩
            | true =>
              have hlow := (lowN_all (LL := LL) (AT := AT) AT.length (Nat.le_refl _)).1 ho
              have hle : ∀ x, sumF LL x ≤ 65535 := low_all HALL.out fun T hT s hs => by
                have hmem := HLOS.out s.1 (List.mem_flatMap.2 ⟨T, hT, List.mem_map.2 ⟨s, hs, rfl⟩⟩)
                obtain ⟨j, hj, e⟩ := List.mem_iff_getElem.1 hmem
                have := hlow j hj
                rwa [show AT.getD j 0 = s.1 from by rw [← e]; simp [List.getD, List.getElem?_eq_getElem hj]] at this
              have hfs : findS M n = sumF LL n := by
                rcases HIS.out with ⟨_, x, hx⟩ | ⟨_, _, h3⟩
                · have := hle x; omega
                · exact (h3 n).1
              have h9 := reffind_any _ M n wr (HMM.out.below hbw) (by omega)
              rw [hfs, ← hsm] at h9
              have H9 := Lib.hid h9
              clear h9 hfs hle hlow ho hsm HSM
              go_wp2_with fail
              refine (H9.out).mono ?_
              rintro e w9 ⟨rfl, b9⟩
              have hb10 := hb9.trans (b9.mono hb9.size)
              go_wp2
              go_ret
              exact ⟨(ret_eq (by first | rfl | (simp <;> omega))), hb10⟩
set_option maxRecDepth 100000 in
theorem walk {H : Type} {enc : TypeId × Value → H} (W : World) {base : Nat} (v : Value) {d : DataW H} {p : List MemPlace} (hv : Value.okWide Try.prog W .any base 64 v) (h : DataW.Trod enc Try.prog W 0 (fun _ => true) true 64 v d p) (n : Int) (_wn : (Lit.int .i64 n).wf = true) :
    Calls Try.prog 11 #[v, .int .i64 n] W (Yes W) := by
  obtain ⟨LL, hh⟩ := open_spanss hv h
  exact walkH W v LL n hh

set_option maxRecDepth 100000 in
theorem lifted (os : Os) (started : os.Started) (H : Type) (enc : TypeId × Value → H) :
    ReturnsInHanded {} Try.checked os 11 .any (Rows.spansSumSpec.pre6 enc Try.prog Try.f11 Rows.spansSumRow.domain false) (Rows.spansSumSpec.post enc Try.prog Try.f11 false true false false) := by
  refine law_frame_plain (C := Try.checked) (tb := 4) (by kernel_rfl) started (by kernel_rfl) Try.func11 (by kernel_rfl) (by kernel_rfl) Try.underlying4 rfl
    (by rw [Try.params11]; intro t ht; simp at ht; rcases ht with rfl | rfl <;> exact ⟨by kernel_rfl, of_decide_eq_true (by kernel_rfl)⟩)
    (by rw [Try.params11]; intro ds hd; match ds, hd with | [_, _], _ => rfl)
    (ChangeSpec.witness6 (enc := enc) (C := Try.checked) false ⟨#[], #[.slice none 0 0, .int .i64 0], []⟩ 8 (by kernel_rfl) (by kernel_rfl) (by kernel_rfl) (by kernel_rfl)) ?_
  intro W base args ds before hval hA
  rw [Try.params11] at hA hval
  obtain ⟨v0, vs0, d0, ds0, p0, q0, hargs, rfl, rfl, h0, r0⟩ := trodAll_cons hA
  obtain ⟨v1, vs1, d1, ds1, p1, q1, rfl, rfl, rfl, h1, r1⟩ := trodAll_cons r0
  obtain ⟨rfl, rfl, rfl⟩ := trodAll_nil r1
  obtain rfl : args = #[v0, v1] := by cases args; simp_all
  obtain ⟨x1, rfl, rfl, rfl, wx1⟩ := open_int Try.underlying3 (hval 1 3 v1 rfl rfl) h1
  exact walk W v0 (hval 0 64 v0 rfl rfl) h0 x1 wx1

theorem proved : Rows.SpansSumSaid :=
  OpenClaim.holds_of_wide 11 Try.f11 rfl rfl rfl rfl rfl rfl rfl ⟨rfl, rfl, rfl, rfl, rfl⟩ rfl rfl rfl rfl rfl (by kernel_rfl) Try.func11 (by kernel_rfl)
    (of_decide_eq_true (by kernel_rfl)) (by unfold Func.isWrapper; first | (rw [if_pos (by decide +kernel)]; kernel_rfl) | (rw [if_neg (by decide +kernel)]; exact ⟨rfl, rfl⟩))
    (fun os started H enc _ => lifted os started H enc)
#print axioms proved

end Go.Proofs.Ytmfoldohmbaikaa.lawSpansSum
