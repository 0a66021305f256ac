/- What a decoder tells byte by byte, and the parts of a row: plain mathematics. -/
import Derived.Test.YtgoeacmpphmnoaaUallT
import Derived.Test.YtgoeacmpphmnoaaUallR
import Derived.Test.YtgoeacmpphmnoaaUallM
import Derived.Test.YtgoeacmpphmnoaaUtfdecC
import Derived.Test.YtgoeacmpphmnoaaDecM
namespace Go.Proofs.Ytgoeacmpphmnoaa
open Go.RowKit Go.ChangeShapes Go.WideShapes
theorem drop_getD (xs : List Int) (p j : Nat) : (xs.drop p).getD j 0 = xs.getD (p + j) 0 := by simp [List.getD]
theorem goF_end (ys : List Int) (lead : Int) : ∀ (f m : Nat), lead ≤ m + f → goF ys lead f m < lead → goF ys lead f m < ys.length → okB ys (goF ys lead f m) = false
  | 0, m, hf, h, _ => by have : goF ys lead 0 m = m := rfl; omega
  | f + 1, m, hf, h, hl => by
    unfold goF at h hl ⊢
    by_cases hc : (m : Int) < lead ∧ m < ys.length ∧ okB ys m = true
    · rw [if_pos hc] at h hl ⊢
      exact goF_end ys lead f (m + 1) (by omega) h hl
    · rw [if_neg hc] at h hl ⊢
      cases ho : okB ys m with
      | false => rfl
      | true => exact absurd ⟨h, hl, ho⟩ hc
theorem begN_end (ys : List Int) (h : (begN ys (leadI (ys.getD 0 0)) : Int) < leadI (ys.getD 0 0)) (hl : begN ys (leadI (ys.getD 0 0)) < ys.length) : okB ys (begN ys (leadI (ys.getD 0 0))) = false :=
  goF_end ys _ 4 1 (by have := lead_le (ys.getD 0 0); omega) h hl
theorem begN_ok (ys : List Int) (lead : Int) (j : Nat) (h1 : 1 ≤ j) (h2 : j < begN ys lead) : okB ys j = true := goF_all ys lead 4 1 j h1 h2
theorem valF_take (ys : List Int) (n : Nat) : ∀ m, m < n → valF (ys.take n) m = valF ys m
  | 0, h => by
    show bitsI ((ys.take n).getD 0 0) = bitsI (ys.getD 0 0)
    rw [show (ys.take n).getD 0 0 = ys.getD 0 0 by simp [List.getD, List.getElem?_take, h]]
  | m + 1, h => by
    show valF (ys.take n) m * 64 + (ys.take n).getD (m + 1) 0 % 64 = valF ys m * 64 + ys.getD (m + 1) 0 % 64
    rw [valF_take ys n m (by omega), show (ys.take n).getD (m + 1) 0 = ys.getD (m + 1) 0 by simp [List.getD, List.getElem?_take, h]]
theorem next_ok (ys : List Int) (m : Nat) (hm : 1 ≤ m) (h : 2 ≤ leadI (ys.getD 0 0)) : nextB (ys.getD 0 0) m (ys.getD m 0) = okB ys m := by
  unfold nextB okB
  by_cases h1 : m = 1
  · subst h1
    rw [if_neg (by decide)]
    by_cases hx : lo2 (ys.getD 0 0) ≤ ys.getD 1 0 ∧ ys.getD 1 0 ≤ hi2 (ys.getD 0 0)
    · rw [tailB_true.2 (lo_hi_in h hx.1 hx.2), decide_eq_true hx.1, decide_eq_true hx.2]; rfl
    · have hb : (decide (lo2 (ys.getD 0 0) ≤ ys.getD 1 0) && decide (ys.getD 1 0 ≤ hi2 (ys.getD 0 0))) = false := by
        by_cases hq : lo2 (ys.getD 0 0) ≤ ys.getD 1 0
        · rw [decide_eq_true hq, decide_eq_false (fun h => hx ⟨hq, h⟩)]; rfl
        · rw [decide_eq_false hq]; rfl
      rw [hb]; rfl
  · rw [if_pos (by omega), show (m != 1) = true by simp [h1]]; rfl
/-- In the midst of a form. -/
theorem mid_step (ys : List Int) (j : Nat) (h : 2 ≤ leadI (ys.getD 0 0)) (hj : 1 ≤ j) (hn : j < begN ys (leadI (ys.getD 0 0))) :
    stepTo (ys.getD 0 0, valF ys (j - 1), (j : Int)) (ys.getD j 0) = (if (j : Int) + 1 < leadI (ys.getD 0 0) then [] else [valF ys j]) ∧
    stepSt (ys.getD 0 0, valF ys (j - 1), (j : Int)) (ys.getD j 0) = (if (j : Int) + 1 < leadI (ys.getD 0 0) then (ys.getD 0 0, valF ys j, (j : Int) + 1) else (0, 0, 0)) := by
  have ho : nextB (ys.getD 0 0) j (ys.getD j 0) = true := by rw [next_ok ys j hj h]; exact begN_ok ys _ j hj hn
  have hv : valF ys j = valF ys (j - 1) * 64 + ys.getD j 0 % 64 := by
    obtain ⟨i, rfl⟩ : ∃ i, j = i + 1 := ⟨j - 1, by omega⟩
    rfl
  have h0 : ¬ ((j : Int) = 0) := by omega
  unfold stepTo stepSt tellT tellL tellBt tellH
  simp only [if_neg h0, ho, if_true, hv]
  by_cases hl : (j : Int) + 1 < leadI (ys.getD 0 0)
  · simp only [if_pos hl]; exact ⟨trivial, trivial⟩
  · simp only [if_neg hl]; exact ⟨trivial, trivial⟩
/-- The first bytes of a form, alone. -/
theorem form_feed (ys : List Int) (h : leadI (ys.getD 0 0) ≠ 0) (hy : 0 < ys.length) : ∀ j, 1 ≤ j → j ≤ begN ys (leadI (ys.getD 0 0)) →
    feedTo (0, 0, 0) (ys.take j) = (if (j : Int) < leadI (ys.getD 0 0) then [] else [valF ys (j - 1)]) ∧ feedSt (0, 0, 0) (ys.take j) = (if (j : Int) < leadI (ys.getD 0 0) then (ys.getD 0 0, valF ys (j - 1), (j : Int)) else (0, 0, 0))
  | 0, h1, _ => by omega
  | 1, _, _ => by
    have ht : ys.take 1 = [ys.getD 0 0] := by cases ys with | nil => simp at hy | cons y ys => simp
    rw [ht]
    show beginT (ys.getD 0 0) ++ [] = (if ((1 : Nat) : Int) < leadI (ys.getD 0 0) then [] else [bitsI (ys.getD 0 0)]) ∧ (beginL (ys.getD 0 0), beginBt (ys.getD 0 0), beginH (ys.getD 0 0)) = (if ((1 : Nat) : Int) < leadI (ys.getD 0 0) then (ys.getD 0 0, bitsI (ys.getD 0 0), ((1 : Nat) : Int)) else (0, 0, 0))
    generalize ys.getD 0 0 = y at h
    unfold beginT beginL beginBt beginH
    rcases lead_cases y with ⟨h2, hs⟩ | ⟨h2, h3, hs⟩ | ⟨h2, h3, hs⟩ | ⟨h2, h3, hs⟩ | ⟨h2, h3, hs⟩ | ⟨h2, hs⟩
    · have hq : bitsI y = y := by unfold bitsI; rw [hs]; simp
      rw [hs, hq]; simp
    · exact absurd hs h
    · rw [hs]; simp
    · rw [hs]; simp
    · rw [hs]; simp
    · exact absurd hs h
  | j + 2, _, hn => by
    obtain ⟨i1, i2⟩ := form_feed ys h hy (j + 1) (by omega) (by omega)
    have hbl := begN_le ys (leadI (ys.getD 0 0)) hy
    have hL : ((j + 1 : Nat) : Int) < leadI (ys.getD 0 0) := by omega
    rw [if_pos hL] at i1 i2
    obtain ⟨m1, m2⟩ := mid_step ys (j + 1) (by omega) (by omega) (by omega)
    rw [show ys.take (j + 2) = ys.take (j + 1 + 1) from rfl, feedTo_take (0, 0, 0) ys (j + 1) (by omega), feedSt_take (0, 0, 0) ys (j + 1) (by omega), i1, i2, m1, m2, List.nil_append]
    exact ⟨rfl, rfl⟩
/-- How many bytes the reference takes for a part: 0 where none begins. -/
def nK (ys : List Int) : Nat := if leadI (ys.getD 0 0) = 0 then 0 else begN ys (leadI (ys.getD 0 0))
theorem beg_at (ys : List Int) (hr : ∀ i, i < ys.length → 0 ≤ ys.getD i 0 ∧ ys.getD i 0 ≤ 255) (j : Nat) (h : (j : Int) < leadI (ys.getD 0 0)) (hj : j < ys.length) (hok : ∀ i, 1 ≤ i → i < j → okB ys i = true) :
    begB (ys.take (j + 1)) = if j = 0 ∨ okB ys j = true then leadI (ys.getD 0 0) else 0 := by
  have hle := lead_le (ys.getD 0 0)
  obtain ⟨r0, r1⟩ := hr 0 (by omega)
  match j, h, hj, hok with
  | 0, h, hj, _ =>
    rw [if_pos (.inl rfl), show ys.take (0 + 1) = [ys.getD 0 0] by cases ys with | nil => simp at hj | cons y ys => simp]
    exact beg1 _ r0 r1
  | 1, h, hj, _ =>
    have e : ys.take (1 + 1) = [ys.getD 0 0, ys.getD 1 0] := by
      match ys, hj with
      | a :: b :: t, _ => simp
    have hn := next_ok ys 1 (by omega) (by omega)
    unfold nextB at hn
    rw [if_neg (by decide)] at hn
    rw [e, beg2 _ _ (by omega) r0, ← hn]
    by_cases hx : lo2 (ys.getD 0 0) ≤ ys.getD 1 0 ∧ ys.getD 1 0 ≤ hi2 (ys.getD 0 0)
    · rw [if_pos hx, if_pos (.inr (by rw [decide_eq_true hx.1, decide_eq_true hx.2]; rfl))]
    · rw [if_neg hx, if_neg (by
        rintro (h1 | h1)
        · omega
        · rw [Bool.and_eq_true, decide_eq_true_eq, decide_eq_true_eq] at h1; exact hx h1)]
  | 2, h, hj, hok =>
    have e : ys.take (2 + 1) = [ys.getD 0 0, ys.getD 1 0, ys.getD 2 0] := by
      match ys, hj with
      | a :: b :: c :: t, _ => simp
    have h1 := okB_one (hok 1 (by omega) (by omega))
    have hn := next_ok ys 2 (by omega) (by omega)
    unfold nextB at hn
    rw [if_pos (by decide)] at hn
    rw [e, beg3 _ _ _ (by omega) r0 h1.1 h1.2.1, ← hn]
    by_cases hx : 128 ≤ ys.getD 2 0 ∧ ys.getD 2 0 ≤ 191
    · rw [if_pos hx, if_pos (.inr (tailB_true.2 hx))]
    · rw [if_neg hx, if_neg (by simp only [tailB_true]; omega)]
  | 3, h, hj, hok =>
    have e : ys.take (3 + 1) = [ys.getD 0 0, ys.getD 1 0, ys.getD 2 0, ys.getD 3 0] := by
      match ys, hj with
      | a :: b :: c :: d :: t, _ => simp
    have h1 := okB_one (hok 1 (by omega) (by omega))
    have h2 := okB_more (hok 2 (by omega) (by omega))
    have hn := next_ok ys 3 (by omega) (by omega)
    unfold nextB at hn
    rw [if_pos (by decide)] at hn
    rw [e, beg4 _ _ _ _ (by omega) r0 h1.1 h1.2.1 h2.1 h2.2, ← hn]
    by_cases hx : 128 ≤ ys.getD 3 0 ∧ ys.getD 3 0 ≤ 191
    · rw [if_pos hx, if_pos (.inr (tailB_true.2 hx))]
    · rw [if_neg hx, if_neg (by simp only [tailB_true]; omega)]
  | j + 4, h, _, _ => omega
/-- The reference goes on: a beginning is one, and it is whole just at its end. -/
theorem nK_on (ys : List Int) (hr : ∀ i, i < ys.length → 0 ≤ ys.getD i 0 ∧ ys.getD i 0 ≤ 255) (hy : 0 < ys.length) (k : Nat) (hk : k < nK ys) :
    k < ys.length ∧ begB (ys.take (k + 1)) = leadI (ys.getD 0 0) ∧ 0 < leadI (ys.getD 0 0) ∧ (leadI (ys.getD 0 0) = (k : Int) + 1 → nK ys = k + 1) := by
  unfold nK at hk ⊢
  have hbl := begN_le ys (leadI (ys.getD 0 0)) hy
  have hlc := lead_cases (ys.getD 0 0)
  by_cases h0 : leadI (ys.getD 0 0) = 0
  · rw [if_pos h0] at hk; omega
  · rw [if_neg h0] at hk ⊢
    have hkL : (k : Int) < leadI (ys.getD 0 0) := by omega
    refine ⟨by omega, ?_, by omega, fun h => by omega⟩
    rw [beg_at ys hr k hkL (by omega) (fun i h1 h2 => begN_ok ys (leadI (ys.getD 0 0)) i h1 (by omega))]
    by_cases hk0 : k = 0
    · rw [if_pos (.inl hk0)]
    · rw [if_pos (.inr (begN_ok ys _ k (by omega) hk))]
/-- Where it stops. -/
theorem nK_off (ys : List Int) (hr : ∀ i, i < ys.length → 0 ≤ ys.getD i 0 ∧ ys.getD i 0 ≤ 255) (hy : 0 < ys.length) (hk : nK ys < ys.length) (hn : nK ys = 0 ∨ leadI (ys.getD 0 0) ≠ nK ys) : begB (ys.take (nK ys + 1)) = 0 := by
  unfold nK at hk hn ⊢
  have hbl := begN_le ys (leadI (ys.getD 0 0)) hy
  have hlc := lead_cases (ys.getD 0 0)
  by_cases h0 : leadI (ys.getD 0 0) = 0
  · rw [if_pos h0] at hk hn ⊢
    rw [show ys.take (0 + 1) = [ys.getD 0 0] by cases ys with | nil => simp at hy | cons y ys => simp]
    obtain ⟨r0, r1⟩ := hr 0 hy
    rw [beg1 _ r0 r1, h0]
  · rw [if_neg h0] at hk hn ⊢
    have hkL : (begN ys (leadI (ys.getD 0 0)) : Int) < leadI (ys.getD 0 0) := by omega
    rw [beg_at ys hr _ hkL hk (fun i h1 h2 => begN_ok ys _ i h1 h2), if_neg]
    rw [begN_end ys hkL hk]
    rintro (h1 | h1)
    · omega
    · exact absurd h1 (by decide)
/-- Is the part at p a beginning that is not whole? -/
def opn (xs : List Int) (p : Nat) : Prop := leadI (xs.getD p 0) ≠ 0 ∧ (lenG xs p : Int) ≠ leadI (xs.getD p 0)
theorem part_lone {xs : List Int} {p : Nat} (h : leadI (xs.getD p 0) = 0) : partG xs p = (65533, (p : Int), 1, (p : Int) + 1, true) ∧ lenG xs p = 1 := by
  unfold partG lenG; rw [if_pos h, if_pos h]; exact ⟨rfl, rfl⟩
theorem part_whole {xs : List Int} {p : Nat} (h : leadI (xs.getD p 0) ≠ 0) (he : (lenG xs p : Int) = leadI (xs.getD p 0)) : partG xs p = (valF (xs.drop p) (lenG xs p - 1), (p : Int), (lenG xs p : Int), (p : Int) + lenG xs p, false) := by
  have hn := lenG_pos xs p
  unfold lenG at he hn ⊢
  unfold partG
  rw [if_neg h] at he hn ⊢
  rw [if_neg h, if_pos he, valF_take _ _ _ (by omega)]
theorem part_open {xs : List Int} {p : Nat} (h : opn xs p) : partG xs p = (65533, (p : Int), (lenG xs p : Int), min ((p : Int) + lenG xs p + 1) xs.length, true) := by
  obtain ⟨h, he⟩ := h
  unfold lenG at he ⊢
  unfold partG
  rw [if_neg h] at he ⊢
  rw [if_neg h, if_neg he]
theorem opn_facts {xs : List Int} {p : Nat} (hp : p < xs.length) (h : opn xs p) : 2 ≤ leadI (xs.getD p 0) ∧ (lenG xs p : Int) < leadI (xs.getD p 0) ∧ lenG xs p = begN (xs.drop p) (leadI (xs.getD p 0)) := by
  obtain ⟨h, he⟩ := h
  unfold lenG at he ⊢
  rw [if_neg h] at he ⊢
  have hbl := begN_le (xs.drop p) (leadI (xs.getD p 0)) (by simp; omega)
  have hlc := lead_cases (xs.getD p 0)
  omega
/-- The decoder behind q bytes: how many parts are told, and its state. -/
inductive Pt (xs : List Int) : Nat → Nat → St → Prop
  | clean (k q : Nat) (h : posN xs k = q) (hc : k = 0 ∨ ¬ opn xs (posN xs (k - 1))) : Pt xs q k (0, 0, 0)
  | opened (k q p : Nat) (hp : posN xs k = p) (hq : posN xs (k + 1) = q) (hpl : p < xs.length) (ho : opn xs p) : Pt xs q k (xs.getD p 0, valF (xs.drop p) (lenG xs p - 1), (lenG xs p : Int))
  | mid (k q p j : Nat) (hp : posN xs k = p) (hq : q = p + j) (hpl : p < xs.length) (h1 : 1 ≤ j) (hj : j < lenG xs p) : Pt xs q k (xs.getD p 0, valF (xs.drop p) (j - 1), (j : Int))
theorem pos_succ (xs : List Int) (k : Nat) : posN xs (k + 1) = posN xs k + lenG xs (posN xs k) := rfl
def knG (xs : List Int) (i : Nat) : Int := (partG xs (posN xs i)).2.2.2.1
/-- From a state that begins anew at the next byte: T is told ahead of what the byte itself begins; c parts are told with T. -/
theorem pt_begin (xs : List Int) (k q : Nat) (hq : posN xs k = q) (hql : q < xs.length) (s : St) (pre : List Int) (hs : stepSt s (xs.getD q 0) = (beginL (xs.getD q 0), beginBt (xs.getD q 0), beginH (xs.getD q 0)))
    (ht : stepTo s (xs.getD q 0) = pre ++ beginT (xs.getD q 0)) :
    ∃ c', Pt xs (q + 1) c' (stepSt s (xs.getD q 0)) ∧ k ≤ c' ∧ valsN xs c' = valsN xs k ++ beginT (xs.getD q 0) ∧ ∀ i, k ≤ i → i < c' → knG xs i = (q : Int) + 1 := by
  rw [hs]
  have hlc := lead_cases (xs.getD q 0)
  have hle := lenG_le xs q hql
  have hpo := lenG_pos xs q
  have hsn := vals_snoc xs k
  rw [hq] at hsn
  have hps := pos_succ xs k
  rw [hq] at hps
  by_cases h0 : leadI (xs.getD q 0) = 0
  · obtain ⟨hp, hl⟩ := part_lone h0
    have hb : (beginL (xs.getD q 0), beginBt (xs.getD q 0), beginH (xs.getD q 0)) = (0, 0, 0) := by unfold beginL beginBt beginH; rw [h0]; rfl
    rw [hb]
    rw [hp] at hsn
    refine ⟨k + 1, Pt.clean (k + 1) (q + 1) (by omega) (.inr ?_), by omega, by rw [hsn]; unfold beginT; rw [if_pos h0], fun i h1 h2 => ?_⟩
    · rw [Nat.add_sub_cancel, hq]; exact fun h => h.1 h0
    · obtain rfl : i = k := by omega
      unfold knG
      rw [hq, hp]
  · have hd0 : (xs.drop q).getD 0 0 = xs.getD q 0 := by rw [drop_getD]; rfl
    by_cases h1 : leadI (xs.getD q 0) = 1
    · have hn1 : lenG xs q = 1 := by
        have hbl := begN_le (xs.drop q) (leadI (xs.getD q 0)) (by simp; omega)
        unfold lenG
        rw [if_neg h0]
        omega
      have hp := part_whole h0 (by rw [hn1, h1]; rfl)
      have hb : (beginL (xs.getD q 0), beginBt (xs.getD q 0), beginH (xs.getD q 0)) = (0, 0, 0) := by unfold beginL beginBt beginH; rw [h1]; rfl
      have hv : valF (xs.drop q) (lenG xs q - 1) = xs.getD q 0 := by
        rw [hn1]
        show bitsI ((xs.drop q).getD 0 0) = _
        rw [hd0]
        unfold bitsI
        rw [h1]; simp
      rw [hb]
      rw [hp, hv] at hsn
      refine ⟨k + 1, Pt.clean (k + 1) (q + 1) (by omega) (.inr ?_), by omega, by rw [hsn]; unfold beginT; rw [if_neg h0, if_pos h1], fun i h2 h3 => ?_⟩
      · rw [Nat.add_sub_cancel, hq]; exact fun h => h.2 (by rw [hn1, h1]; rfl)
      · obtain rfl : i = k := by omega
        unfold knG
        rw [hq, hp, hn1]; rfl
    · have h2 : 2 ≤ leadI (xs.getD q 0) := by omega
      have hb : (beginL (xs.getD q 0), beginBt (xs.getD q 0), beginH (xs.getD q 0)) = (xs.getD q 0, valF (xs.drop q) 0, 1) := by
        unfold beginL beginBt beginH
        rw [if_pos h2, if_pos h2, if_pos h2]
        show _ = (_, bitsI ((xs.drop q).getD 0 0), _)
        rw [hd0]
      have ht0 : beginT (xs.getD q 0) = [] := by unfold beginT; rw [if_neg h0, if_neg h1]
      rw [hb, ht0, List.append_nil]
      by_cases hn : lenG xs q = 1
      · have ho : opn xs q := ⟨h0, by rw [hn]; omega⟩
        have := Pt.opened (xs := xs) k (q + 1) q hq (by omega) hql ho
        rw [hn] at this
        exact ⟨k, this, Nat.le_refl _, rfl, fun i h3 h4 => by omega⟩
      · exact ⟨k, Pt.mid (xs := xs) k (q + 1) q 1 hq rfl hql (Nat.le_refl _) (by omega), Nat.le_refl _, rfl, fun i h3 h4 => by omega⟩
theorem pt_step {xs : List Int} {q c : Nat} {s : St} (h : Pt xs q c s) (hql : q < xs.length) :
    ∃ c', Pt xs (q + 1) c' (stepSt s (xs.getD q 0)) ∧ c ≤ c' ∧ valsN xs c' = valsN xs c ++ stepTo s (xs.getD q 0) ∧ ∀ i, c ≤ i → i < c' → knG xs i = (q : Int) + 1 := by
  cases h with
  | clean k q hq hc =>
    obtain ⟨c', h1, h2, h3, h4⟩ := pt_begin xs c q hq hql (0, 0, 0) [] rfl rfl
    exact ⟨c', h1, h2, h3, h4⟩
  | opened k q p hp hq hpl ho =>
    obtain ⟨o1, o2, o3⟩ := opn_facts hpl ho
    have hd0 : (xs.drop p).getD 0 0 = xs.getD p 0 := by rw [drop_getD]; rfl
    have hps := pos_succ xs c
    rw [hp, hq] at hps
    have hno := next_ok (xs.drop p) (lenG xs p) (lenG_pos _ _) (by rw [hd0]; exact o1)
    rw [hd0, drop_getD, ← hps] at hno
    have hbe := begN_end (xs.drop p) (by rw [hd0, ← o3]; exact o2) (by rw [hd0, ← o3]; simp; omega)
    rw [hd0, ← o3] at hbe
    rw [hbe] at hno
    have hh : ¬ ((lenG xs p : Int) = 0) := by have := lenG_pos xs p; omega
    have hs : stepSt (xs.getD p 0, valF (xs.drop p) (lenG xs p - 1), (lenG xs p : Int)) (xs.getD q 0) = (beginL (xs.getD q 0), beginBt (xs.getD q 0), beginH (xs.getD q 0)) := by
      unfold stepSt tellL tellBt tellH
      simp only [if_neg hh, hno, Bool.false_eq_true, if_false]
    have ht : stepTo (xs.getD p 0, valF (xs.drop p) (lenG xs p - 1), (lenG xs p : Int)) (xs.getD q 0) = [65533] ++ beginT (xs.getD q 0) := by
      unfold stepTo tellT
      simp only [if_neg hh, hno, Bool.false_eq_true, if_false, List.cons_append, List.nil_append]
    obtain ⟨c', h1, h2, h3, h4⟩ := pt_begin xs (c + 1) q hq hql _ [65533] hs ht
    have hsn := vals_snoc xs c
    rw [hp, part_open ho] at hsn
    refine ⟨c', h1, by omega, by rw [h3, hsn, ht, List.append_assoc], fun i i1 i2 => ?_⟩
    rcases Nat.lt_or_ge c i with h5 | h5
    · exact h4 i h5 i2
    · obtain rfl : i = c := by omega
      unfold knG
      rw [hp, part_open ho]
      show min _ _ = _
      omega
  | mid k q p j hp hq hpl h1 hj =>
    have hd0 : (xs.drop p).getD 0 0 = xs.getD p 0 := by rw [drop_getD]; rfl
    have h0 : leadI (xs.getD p 0) ≠ 0 := by
      intro h; have := (part_lone h).2; omega
    have hln : lenG xs p = begN (xs.drop p) (leadI (xs.getD p 0)) := by unfold lenG; rw [if_neg h0]
    have hbl := begN_le (xs.drop p) (leadI (xs.getD p 0)) (by simp; omega)
    rw [← hln] at hbl
    have hlc := lead_cases (xs.getD p 0)
    obtain ⟨m1, m2⟩ := mid_step (xs.drop p) j (by rw [hd0]; omega) h1 (by rw [hd0, ← hln]; exact hj)
    rw [hd0, drop_getD, ← hq] at m1 m2
    have hps := pos_succ xs c
    rw [hp] at hps
    rw [m1, m2]
    by_cases hl : (j : Int) + 1 < leadI (xs.getD p 0)
    · rw [if_pos hl, if_pos hl, List.append_nil]
      refine ⟨c, ?_, Nat.le_refl _, rfl, fun i i1 i2 => by omega⟩
      by_cases hjn : j + 1 < lenG xs p
      · exact Pt.mid (xs := xs) c (q + 1) p (j + 1) hp (by omega) hpl (by omega) hjn
      · have hje : lenG xs p = j + 1 := by omega
        have := Pt.opened (xs := xs) c (q + 1) p hp (by omega) hpl ⟨h0, by rw [hje]; omega⟩
        rw [hje] at this
        exact this
    · have hje : lenG xs p = j + 1 := by omega
      have hpw := part_whole h0 (by rw [hje]; omega)
      rw [if_neg hl, if_neg hl]
      have hsn := vals_snoc xs c
      rw [hp, hpw, hje] at hsn
      refine ⟨c + 1, Pt.clean (c + 1) (q + 1) (by omega) (.inr ?_), by omega, hsn, fun i i1 i2 => ?_⟩
      · rw [Nat.add_sub_cancel, hp]; exact fun h => h.2 (by rw [hje]; omega)
      · obtain rfl : i = c := by omega
        unfold knG
        rw [hp, hpw, hje, hq]
        show (p : Int) + ((j + 1 : Nat) : Int) = _
        omega
theorem pt_zero (xs : List Int) : Pt xs 0 0 (0, 0, 0) := Pt.clean 0 0 rfl (.inl rfl)
/-- Behind all bytes. -/
theorem pt_end {xs : List Int} {c : Nat} {s : St} (h : Pt xs xs.length c s) (K : Nat) (hK : posN xs K = xs.length) :
    s.2.2 = tailG xs K ∧ ((s.2.2 = 0 ∧ c = K) ∨ (0 < s.2.2 ∧ K = c + 1 ∧ valsN xs K = valsN xs c ++ [65533])) := by
  generalize hn : xs.length = n at h hK
  cases h with
  | clean k q hq hc =>
    obtain rfl : c = K := posN_one xs (by omega)
    refine ⟨?_, .inl ⟨rfl, rfl⟩⟩
    show (0 : Int) = tailG xs c
    unfold tailG
    rw [if_neg]
    rintro ⟨h1, h2⟩
    unfold lastG at h1
    rcases hc with h0 | h0
    · rw [if_pos h0] at h1; exact absurd h1 (by simp)
    · by_cases hc0 : c = 0
      · rw [if_pos hc0] at h1; exact absurd h1 (by simp)
      · rw [if_neg hc0] at h1
        have hne : leadI (xs.getD (posN xs (c - 1)) 0) ≠ 0 := by omega
        have he : (lenG xs (posN xs (c - 1)) : Int) = leadI (xs.getD (posN xs (c - 1)) 0) := Classical.byContradiction fun h => h0 ⟨hne, h⟩
        rw [part_whole hne he] at h1
        exact absurd h1 (by simp)
  | opened k q p hp hq hpl ho =>
    obtain rfl : c + 1 = K := posN_one xs (by omega)
    obtain ⟨o1, o2, o3⟩ := opn_facts hpl ho
    have hpo := lenG_pos xs p
    have hsn := vals_snoc xs c
    rw [hp, part_open ho] at hsn
    refine ⟨?_, .inr ⟨by show (0 : Int) < lenG xs p; omega, rfl, hsn⟩⟩
    show (lenG xs p : Int) = tailG xs (c + 1)
    have hl : lastG xs (c + 1) = partG xs p := by unfold lastG; rw [if_neg (by omega), Nat.add_sub_cancel, hp]
    unfold tailG
    rw [hl, part_open ho, Nat.add_sub_cancel, hp, if_pos ⟨rfl, by omega⟩]
  | mid k q p j hp hq hpl h1 hj =>
    exfalso
    have := lenG_le xs p hpl
    omega
/-- All bytes: what is told, and what is left. -/
theorem pt_all (xs : List Int) : ∀ q, q ≤ xs.length → ∃ c, Pt xs q c (feedSt (0, 0, 0) (xs.take q)) ∧ feedTo (0, 0, 0) (xs.take q) = valsN xs c
  | 0, _ => ⟨0, pt_zero xs, rfl⟩
  | q + 1, h => by
    obtain ⟨c, h1, h2⟩ := pt_all xs q (by omega)
    obtain ⟨c', i1, _, i3, _⟩ := pt_step h1 (by omega)
    rw [feedSt_take (0, 0, 0) xs q (by omega), feedTo_take (0, 0, 0) xs q (by omega), h2]
    exact ⟨c', i1, i3.symm⟩
theorem feed_all (xs : List Int) (K : Nat) (hK : posN xs K = xs.length) :
    (feedSt (0, 0, 0) xs).2.2 = tailG xs K ∧ feedTo (0, 0, 0) xs ++ (if 0 < (feedSt (0, 0, 0) xs).2.2 then [65533] else []) = valsN xs K := by
  obtain ⟨c, h1, h2⟩ := pt_all xs xs.length (Nat.le_refl _)
  rw [List.take_length] at h1 h2
  obtain ⟨e1, e2⟩ := pt_end h1 K hK
  refine ⟨e1, ?_⟩
  rcases e2 with ⟨e2, rfl⟩ | ⟨e2, e3, e4⟩
  · rw [if_neg (by omega), List.append_nil, h2]
  · rw [if_pos e2, h2, e4]
end Go.Proofs.Ytgoeacmpphmnoaa
