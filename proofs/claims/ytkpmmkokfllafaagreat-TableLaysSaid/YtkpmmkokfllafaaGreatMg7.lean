/- Texts put together: GraO, GraS, GraT, GraQ, GraR, MeaA, MeaB, MeaC, MeaD. -/
import Derived.Test.YtkpmmkokfllafaaGreatGraN
import Derived.Test.YtkpmmkokfllafaaGreatMg1
import Derived.Laws.Cover4
import Derived.Test.YtkpmmkokfllafaaGreatMg2
import Derived.Test.YtkpmmkokfllafaaGreatCluN
import Derived.Test.YtkpmmkokfllafaaGreatMg6
import Derived.Test.YtkpmmkokfllafaaGreatBasewW
import Derived.Lib.MinMax
/- Count; the works of layer 16. -/
namespace Go.Proofs.YtkpmmkokfllafaaGreat
open Go.RowKit Go.ChangeShapes Go.WideShapes
theorem clu_first : cluA [101, 769, 97] = [[101, 769], [97]] := by decide +kernel
theorem count_flags : (startB (jR (knownL [127465, 127466, 127467])) 3).length = 2 := by decide +kernel
end Go.Proofs.YtkpmmkokfllafaaGreat
/- Rows of numbers as texts; the reference's Same (16), of alike lists. -/
namespace Go.Proofs.YtkpmmkokfllafaaGreat
open Go.RowKit Go.ChangeShapes Go.WideShapes
theorem held_rtext {P : Program} {w : World} {v : Value} {xs : List Int} (h : Held .i32 w v xs) (src e dst : TypeId) (hs : P.underlying src = some (.slice e)) (he : P.underlying e = some (.int .i32)) (hd : P.underlying dst = some .string) :
    (convert src dst v).run P w = .ok (.string (runesBytes xs)) w := by
  obtain ⟨ao, cap, rfl, hn, hc⟩ := h
  cases xs with
  | nil =>
    cases ao with
    | none => exact run_convert_runes_nil w src dst e 0 cap hs he hd
    | some a =>
      rw [run_convert_runes_string w src dst e _ _ _ hs he hd]
      exact run_runesToString w a 0 cap [] (by simp [loadCells, loadCellsFrom])
  | cons x xs =>
    obtain ⟨b, off, rfl, _, _⟩ := hc 0 (by simp)
    have h2 := run_convert_runes w src dst e ⟨b, off, none⟩ (x :: xs).length cap (x :: xs) (Nat.le_refl _) hs he hd (fun j hj => by
      obtain ⟨b', off', e1, _, h1⟩ := hc j hj
      cases e1
      rw [Addr.add_lit]
      exact h1)
    rw [List.take_of_length_le (Nat.le_refl _)] at h2
    exact h2
end Go.Proofs.YtkpmmkokfllafaaGreat
/- Rows of numbers that are arguments. -/
namespace Go.Proofs.YtkpmmkokfllafaaGreat
open Go.RowKit Go.ChangeShapes Go.WideShapes
theorem bounds_of {xs : List Int} (hp : ∀ x ∈ xs, (Lit.int .i32 x).wf = true) : bounds32 xs := by
  intro i hi
  have hm : xs.getD i 0 ∈ xs := by simp [List.getD, List.getElem?_eq_getElem hi]
  have hw := hp _ hm
  simp [Lit.wf] at hw
  exact hw
set_option maxRecDepth 100000 in
theorem runes_arg {H : Type} {enc : TypeId × Value → H} {W : World} {base : Nat} {v : Value} {d : DataW H} {p : List MemPlace} (hv : Value.okWide Tryz.prog W .any base 34 v) (h : DataW.Trod enc Tryz.prog W 0 (fun _ => true) true 34 v d p) : ∃ L, HeldE (intE .i32) (fun b => b < W.heap.size) W v L ∧ bounds32 L := by
  obtain ⟨L, hL, hk⟩ := opens_arg (E := intE .i32) Tryz.underlying34 (by kernel_rfl) (by decide) (opens_int Tryz.underlying21 (by kernel_rfl)) hv h
  exact ⟨L, hL, bounds_of hk⟩
end Go.Proofs.YtkpmmkokfllafaaGreat
/- Clusters in a row: what came so far is the beginning of the row. -/
namespace Go.Proofs.YtkpmmkokfllafaaGreat
open Go.RowKit Go.ChangeShapes Go.WideShapes
theorem startB_head (j : Nat → Bool) (h0 : j 0 = false) (n : Nat) (h : 0 < n) : (startB j n).getD 0 0 = 0 := by
  have : 0 ∈ startB j n := startB_mem.2 ⟨h, h0⟩
  unfold startB
  obtain ⟨m, rfl⟩ : ∃ m, n = m + 1 := ⟨n - 1, by omega⟩
  rw [List.range_succ_eq_map, List.filter_cons_of_pos (by rw [h0]; rfl)]
  rfl
/-- Where the first k end. -/
def endC (xs : List Int) (k : Nat) : Nat := (startB (jR (knownL xs)) xs.length ++ [xs.length]).getD k 0
theorem endC_zero (xs : List Int) : endC xs 0 = 0 := by
  unfold endC
  rcases Nat.eq_zero_or_pos xs.length with h | h
  · rw [h]; rfl
  · have h1 := startB_head (jR (knownL xs)) (jR_zero _) xs.length h
    have hne : 0 < (startB (jR (knownL xs)) xs.length).length := List.length_pos_of_mem (startB_mem.2 ⟨h, jR_zero _⟩)
    rw [List.getD, List.getElem?_append_left hne]
    exact h1
theorem clS_at (xs : List Int) (k : Nat) (h : k < (clS xs).length) : (clS xs).getD k (0, 0) = (endC xs k, endC xs (k + 1)) :=
  spansB_at (jR (knownL xs)) (jR_zero _) xs.length k (by rw [← spansB_len _ (jR_zero _)]; exact h)
theorem clS_ok (xs : List Int) (k : Nat) (h : k < (clS xs).length) : endC xs k < endC xs (k + 1) ∧ endC xs (k + 1) ≤ xs.length := by
  have hm : (clS xs).getD k (0, 0) ∈ clS xs := by
    rw [List.getD, List.getElem?_eq_getElem h]
    exact List.getElem_mem _
  have := spansB_ok _ _ _ hm
  rw [clS_at xs k h] at this
  exact this
theorem endC_last (xs : List Int) : endC xs (clS xs).length = xs.length := by
  unfold endC
  have : (clS xs).length = (startB (jR (knownL xs)) xs.length).length := spansB_len _ (jR_zero _) _
  rw [this, List.getD, List.getElem?_append_right (Nat.le_refl _), Nat.sub_self]
  rfl
theorem flat_take (xs : List Int) : ∀ k, k ≤ (clS xs).length → (((clS xs).take k).map (sliceL xs)).flatten = xs.take (endC xs k)
  | 0, _ => by rw [endC_zero]; simp
  | k + 1, h => by
    have ih := flat_take xs k (by omega)
    rw [List.take_succ_eq_append_getElem (by omega), List.map_append, List.flatten_append, ih]
    have e : (clS xs)[k]'(by omega) = (endC xs k, endC xs (k + 1)) := by
      rw [← clS_at xs k (by omega)]
      simp [List.getD, List.getElem?_eq_getElem (show k < (clS xs).length by omega)]
    simp only [List.map_cons, List.map_nil, List.flatten_cons, List.flatten_nil, List.append_nil]
    rw [e]
    exact sliceL_next xs _ _ (Nat.le_of_lt (clS_ok xs k (by omega)).1)
theorem endC_le (xs : List Int) (k : Nat) (h : k ≤ (clS xs).length) : endC xs k ≤ xs.length := by
  rcases Nat.eq_zero_or_pos k with e | e
  · rw [e, endC_zero]; exact Nat.zero_le _
  · obtain ⟨m, rfl⟩ : ∃ m, k = m + 1 := ⟨k - 1, by omega⟩
    exact (clS_ok xs m (by omega)).2
/-- What a round is told: the next cluster. -/
theorem next_cu {xs : List Int} {pre : List Cu} {x : Cu} (h : (pre ++ [x]).map Cu.p <+: clS xs) : pre.length < (clS xs).length ∧ x.p = (endC xs pre.length, endC xs (pre.length + 1)) ∧ pre.map Cu.p = (clS xs).take pre.length := by
  have hl := h.length_le
  rw [List.length_map, List.length_append, List.length_singleton] at hl
  have ht := List.prefix_iff_eq_take.1 h
  rw [List.length_map, List.length_append, List.length_singleton, List.map_append] at ht
  have h1 : (pre.map Cu.p ++ [x.p]).take pre.length = ((clS xs).take (pre.length + 1)).take pre.length := by rw [← ht]; rfl
  have h2 : (pre.map Cu.p ++ [x.p]).getD pre.length (0, 0) = ((clS xs).take (pre.length + 1)).getD pre.length (0, 0) := by rw [← ht]; rfl
  rw [List.take_take, List.take_left' (by simp), Nat.min_eq_left (by omega)] at h1
  refine ⟨by omega, ?_, h1⟩
  rw [List.getD, List.getElem?_append_right (by simp)] at h2
  simp only [List.length_map, Nat.sub_self, List.getElem?_cons_zero, Option.getD_some] at h2
  rw [h2]
  have e : ((clS xs).take (pre.length + 1)).getD pre.length (0, 0) = (clS xs).getD pre.length (0, 0) := by simp [List.getD, List.getElem?_take]
  rw [e, clS_at xs _ (by omega)]
end Go.Proofs.YtkpmmkokfllafaaGreat
/- Clusters of two rows, of which the second one begins with one that breaks: numbers alone. -/
namespace Go.Proofs.YtkpmmkokfllafaaGreat
open Go.RowKit Go.ChangeShapes Go.WideShapes
def apartT (A B : List (Int × Int)) : Bool := A.all fun p => B.all fun q => decide (p.2 < q.1) || decide (q.2 < p.1)
theorem apart_tab {A B : List (Int × Int)} (h : apartT A B = true) {r : Int} (ha : inTab A r = true) : inTab B r = false := by
  cases hb : inTab B r with
  | false => rfl
  | true =>
    obtain ⟨p, hp, h1⟩ := List.any_eq_true.1 ha
    obtain ⟨q, hq, h2⟩ := List.any_eq_true.1 hb
    have h3 := List.all_eq_true.1 (List.all_eq_true.1 h p hp) q hq
    simp at h1 h2 h3
    omega
theorem ctrl_pict : apartT tControl tPict = true := by decide +kernel
theorem ctrl_cons : apartT tControl tCons = true := by decide +kernel
theorem ctrl_link : apartT tControl tLink = true := by decide +kernel
theorem ctrl_join : apartT tControl tJoin = true := by decide +kernel
theorem class_ends (r : Int) : classI r = 0 ∨ 9 ≤ classI r := by
  unfold classI
  repeat' split
  all_goals omega
/-- What breaks on both sides is no picture, and has no part in a conjunct. -/
theorem ctrl_plain {r : Int} (h : 1 ≤ gcbI r ∧ gcbI r ≤ 3) : inTab tPict r = false ∧ conjO r = 0 := by
  have hc : r = 13 ∨ r = 10 ∨ inTab tControl r = true := by
    by_cases h1 : r = 13
    · exact .inl h1
    by_cases h2 : r = 10
    · exact .inr (.inl h2)
    right; right
    cases hi : inTab tControl r with
    | true => rfl
    | false =>
      exfalso
      unfold gcbI listedI at h
      rw [if_neg h1, if_neg h2, hi] at h
      simp only [Bool.false_eq_true, if_false] at h
      have hcl := class_ends r
      repeat' split at h
      all_goals omega
  rcases hc with rfl | rfl | hc
  · exact ⟨by decide +kernel, by decide +kernel⟩
  · exact ⟨by decide +kernel, by decide +kernel⟩
  · refine ⟨apart_tab ctrl_pict hc, ?_⟩
    unfold conjO
    rw [apart_tab ctrl_cons hc, apart_tab ctrl_link hc, apart_tab ctrl_join hc]
    rfl
theorem sts_congr {xs ys : List Pr} : ∀ k, (∀ i, i < k → xs.getD i Pr.none = ys.getD i Pr.none) → cSt xs k = cSt ys k ∧ pSt xs k = pSt ys k ∧ oSt xs k = oSt ys k ∧ lSt xs k = lSt ys k
  | 0, _ => ⟨rfl, rfl, rfl, rfl⟩
  | k + 1, h => by
    obtain ⟨h1, h2, h3, _⟩ := sts_congr k fun i hi => h i (by omega)
    have h5 := h k (by omega)
    simp only [cSt, pSt, oSt, lSt]
    rw [h1, h2, h3, h5]
    exact ⟨rfl, rfl, rfl, rfl⟩
theorem jR_congr {xs ys : List Pr} (k : Nat) (h : ∀ i, i < k + 1 → xs.getD i Pr.none = ys.getD i Pr.none) : jR xs k = jR ys k := by
  obtain ⟨h1, h2, h3, h4⟩ := sts_congr k fun i hi => h i (by omega)
  rw [jR_st, jR_st, h1, h2, h3, h4, h k (by omega)]
theorem known_left (a b : List Int) (i : Nat) (h : i < a.length) : (knownL (a ++ b)).getD i Pr.none = (knownL a).getD i Pr.none := by
  unfold knownL
  rw [List.map_append]
  simp [List.getD, List.getElem?_append_left (show i < (a.map knownPr).length by simpa using h)]
theorem known_right (a b : List Int) (i : Nat) : (knownL (a ++ b)).getD (a.length + i) Pr.none = (knownL b).getD i Pr.none := by
  unfold knownL
  rw [List.map_append, List.getD, List.getElem?_append_right (by simp)]
  simp [List.getD]
theorem sts_shift {a b : List Int} {r : Int} {t : List Int} (hb : b = r :: t) (hr : 1 ≤ gcbI r ∧ gcbI r ≤ 3) : ∀ i, cSt (knownL (a ++ b)) (a.length + (i + 1)) = cSt (knownL b) (i + 1) ∧ pSt (knownL (a ++ b)) (a.length + (i + 1)) = pSt (knownL b) (i + 1) ∧ oSt (knownL (a ++ b)) (a.length + (i + 1)) = oSt (knownL b) (i + 1) ∧ lSt (knownL (a ++ b)) (a.length + (i + 1)) = lSt (knownL b) (i + 1)
  | 0 => by
    obtain ⟨h1, h2⟩ := ctrl_plain hr
    have h3 := known_right a b 0
    have h4 : (knownL b).getD 0 Pr.none = knownPr r := by rw [hb]; rfl
    rw [Nat.add_zero, h4] at h3
    have e1 : (knownPr r).br = gcbI r := rfl
    have e2 : (knownPr r).pc = inTab tPict r := rfl
    have e3 : (knownPr r).cv = conjO r := rfl
    show cSt _ (a.length + 0 + 1) = cSt _ (0 + 1) ∧ pSt _ (a.length + 0 + 1) = pSt _ (0 + 1) ∧ oSt _ (a.length + 0 + 1) = oSt _ (0 + 1) ∧ lSt _ (a.length + 0 + 1) = lSt _ (0 + 1)
    rw [Nat.add_zero]
    simp only [cSt, pSt, oSt, lSt]
    rw [h3, h4, e1, e2, e3, h1, h2]
    refine ⟨by simp [conjI], ?_, ?_, rfl⟩
    · unfold picI
      simp only [Bool.false_eq_true, if_false]
      split <;> split <;> first | rfl | (split <;> first | rfl | omega) | omega
    · have : (gcbI r == 6) = false := by rw [beq_eq_false_iff_ne]; omega
      rw [this]; rfl
  | i + 1 => by
    obtain ⟨h1, h2, h3, _⟩ := sts_shift (a := a) hb hr i
    have h5 := known_right a b (i + 1)
    show cSt _ (a.length + (i + 1) + 1) = cSt _ (i + 1 + 1) ∧ pSt _ (a.length + (i + 1) + 1) = pSt _ (i + 1 + 1) ∧ oSt _ (a.length + (i + 1) + 1) = oSt _ (i + 1 + 1) ∧ lSt _ (a.length + (i + 1) + 1) = lSt _ (i + 1 + 1)
    have c1 : cSt (knownL (a ++ b)) (a.length + (i + 1) + 1) = conjI (cSt (knownL (a ++ b)) (a.length + (i + 1))) ((knownL (a ++ b)).getD (a.length + (i + 1)) Pr.none).cv := rfl
    have c2 : pSt (knownL (a ++ b)) (a.length + (i + 1) + 1) = picI (pSt (knownL (a ++ b)) (a.length + (i + 1))) ((knownL (a ++ b)).getD (a.length + (i + 1)) Pr.none).br ((knownL (a ++ b)).getD (a.length + (i + 1)) Pr.none).pc := rfl
    have c3 : oSt (knownL (a ++ b)) (a.length + (i + 1) + 1) = (((knownL (a ++ b)).getD (a.length + (i + 1)) Pr.none).br == 6 && !oSt (knownL (a ++ b)) (a.length + (i + 1))) := rfl
    have c4 : lSt (knownL (a ++ b)) (a.length + (i + 1) + 1) = ((knownL (a ++ b)).getD (a.length + (i + 1)) Pr.none).br := rfl
    rw [c1, c2, c3, c4, h5, h1, h2, h3]
    exact ⟨rfl, rfl, rfl, rfl⟩
theorem join_cut {a b : List Int} {r : Int} {t : List Int} (hb : b = r :: t) (hr : 1 ≤ gcbI r ∧ gcbI r ≤ 3) (hcr : ¬ (gcbI r = 2 ∧ 0 < a.length ∧ gcbI (a.getD (a.length - 1) 0) = 1)) : ∀ i, jR (knownL (a ++ b)) (a.length + i) = jR (knownL b) i
  | 0 => by
    rw [jR_zero]
    rcases Nat.eq_zero_or_pos a.length with h0 | h0
    · rw [h0]; exact jR_zero _
    obtain ⟨m, hm⟩ : ∃ m, a.length = m + 1 := ⟨a.length - 1, by omega⟩
    have h3 := known_right a b 0
    have h4 : (knownL b).getD 0 Pr.none = knownPr r := by rw [hb]; rfl
    rw [Nat.add_zero, h4] at h3
    obtain ⟨h1, h2⟩ := ctrl_plain hr
    have hl : lSt (knownL (a ++ b)) a.length = gcbI (a.getD (a.length - 1) 0) := by
      rw [hm]
      show ((knownL (a ++ b)).getD m Pr.none).br = _
      rw [known_left a b m (by omega), knownL_at (by omega), Nat.add_sub_cancel]
      rfl
    rw [Nat.add_zero, jR_st, h3, hl]
    have e1 : (knownPr r).br = gcbI r := rfl
    have e2 : (knownPr r).pc = inTab tPict r := rfl
    have e3 : (knownPr r).cv = conjO r := rfl
    rw [e1, e2, e3, h1, h2, decide_eq_true h0]
    unfold joinsB
    have hj : joinI (gcbI (a.getD (a.length - 1) 0)) (gcbI r) ≠ 1 := by
      unfold joinI
      have hcl : clI (gcbI r) = gcbI r := by unfold clI; rw [if_neg (by omega)]
      have hbr : brB (gcbI r) = true := by unfold brB; simp; omega
      rw [hcl]
      unfold pairI
      by_cases hc : clI (gcbI (a.getD (a.length - 1) 0)) = 1 ∧ gcbI r = 2
      · exfalso
        apply hcr
        refine ⟨hc.2, h0, ?_⟩
        have := hc.1
        unfold clI at this
        split at this <;> omega
      · rw [if_neg hc, if_pos (.inr hbr)]; decide
    have h6 : (gcbI r == 6) = false := by rw [beq_eq_false_iff_ne]; omega
    rw [if_neg (by decide), if_neg hj, if_neg (by omega), if_neg (by simp), h6]
    rfl
  | i + 1 => by
    obtain ⟨h1, h2, h3, h4⟩ := sts_shift (a := a) hb hr i
    rw [jR_st, jR_st, h1, h2, h3, h4, known_right]
    rw [decide_eq_true (show 0 < a.length + (i + 1) by omega), decide_eq_true (show 0 < i + 1 by omega)]
theorem cluA_cut {a b : List Int} {r : Int} {t : List Int} (hb : b = r :: t) (hr : 1 ≤ gcbI r ∧ gcbI r ≤ 3) (hcr : ¬ (gcbI r = 2 ∧ 0 < a.length ∧ gcbI (a.getD (a.length - 1) 0) = 1)) : cluA (a ++ b) = cluA a ++ cluA b := by
  have hj := join_cut (a := a) hb hr hcr
  have h0 : jR (knownL (a ++ b)) a.length = false := by have := hj 0; rw [Nat.add_zero, jR_zero] at this; exact this
  have hlb : b.length = t.length + 1 := by rw [hb]; rfl
  unfold cluA clS
  rw [List.length_append, hlb, spansB_cut _ _ _ h0, List.map_append, List.map_map]
  have e1 : spansB (jR (knownL (a ++ b))) a.length = spansB (jR (knownL a)) a.length := spansB_congr _ _ _ fun i hi => jR_congr i fun k hk => known_left a b k (by omega)
  have e2 : spansB (fun i => jR (knownL (a ++ b)) (a.length + i)) (t.length + 1) = spansB (jR (knownL b)) (t.length + 1) := spansB_congr _ _ _ fun i _ => hj i
  rw [e1, e2]
  congr 1
  · refine List.map_congr_left fun p hp => ?_
    have := spansB_ok _ _ _ hp
    unfold sliceL
    rw [List.drop_append_of_le_length (by omega), List.take_append_of_le_length (by rw [List.length_drop]; omega)]
  · refine List.map_congr_left fun p hp => ?_
    show sliceL (a ++ b) (a.length + p.1, a.length + p.2) = sliceL b p
    unfold sliceL
    simp only
    rw [List.drop_length_add_append]
    congr 1
    omega
end Go.Proofs.YtkpmmkokfllafaaGreat
/- How wide a cluster is: measure.first, measure.width; the reference's First, Wide (21). -/
namespace Go.Proofs.YtkpmmkokfllafaaGreat
open Go.RowKit Go.ChangeShapes Go.WideShapes
def wdC (T : List Int) : Int := if silB (T.getD 0 0) = true then 0 else rowW (T.take 16) (knownL (T.take 16)) (T.take 16).length
theorem rowW_bd (xs : List Int) (ps : List Pr) (n : Nat) : rowW xs ps n = 1 ∨ rowW xs ps n = 2 := by unfold rowW; split <;> simp
theorem wdC_bd (T : List Int) : (silB (T.getD 0 0) = true ∧ wdC T = 0) ∨ (silB (T.getD 0 0) = false ∧ 1 ≤ wdC T ∧ wdC T ≤ 2) := by
  unfold wdC
  cases h : silB (T.getD 0 0) with
  | true => exact .inl ⟨rfl, by simp⟩
  | false =>
    right
    refine ⟨rfl, ?_⟩
    rw [if_neg (by simp)]
    rcases rowW_bd (T.take 16) (knownL (T.take 16)) (T.take 16).length with h | h <;> omega
set_option maxRecDepth 100000 in
set_option maxHeartbeats 1600000 in
theorem mfirst_any (v : Value) (xs : List Int) (w : World) (hv : Held .i32 w v xs) (hl : xs.length ≤ 1000000000) : Calls Tryz.prog 33 #[v] w (Cloned 21 .i32 w (xs.take 16)) := by
  obtain ⟨ao, ca, rfl⟩ := hv.len
  have HO := Lib.hid (cluof_any _ xs w hv hl)
  have HL := Lib.hid (show (xs.take 16).length ≤ 16 by rw [List.length_take]; omega)
  clear hv
  go_enter Tryz.func33, Tryz.ntmps33
  go_wp2_with fail
  refine HO.out.mono ?_
  rintro e w1 ⟨rfl, b1⟩
  obtain ⟨T, hT⟩ : ∃ T, T = xs.take 16 := ⟨_, rfl⟩
  rw [← hT] at HL ⊢
  have HB := Lib.hid b1
  have HTE := Lib.hid hT
  clear b1 hT HO
  go_wp2_with (refine wpList_store_has rfl 76 (.tmp 3) (.tmp 5) rfl w1.heap.size rfl 76 (clCells []) (clCells T) 17 rfl (Has.new w1 (clCells []) _) info_cl rfl (clCells_len T HL.out) (cl_cells_one T) ?_; intro w5 h5 b5)
  have hb5 : Below w.heap.size w w5 := (HB.out.alloc HB.out.size _).trans (b5.below (by have := HB.out.size; simp; omega) HB.out.size)
  have HC := Lib.hid (ctext_any w1.heap.size T w5 h5 HL.out)
  have HB5 := Lib.hid hb5
  clear h5 b5 hb5
  go_wp2_with fail
  refine HC.out.mono ?_
  rintro e w6 ⟨v6, rfl, ho6, b6⟩
  have HR := Lib.hid (show Cloned 21 .i32 w (xs.take 16) (.returned v6) w6 from by rw [← HTE.out]; exact ⟨v6, rfl, owns_mono ho6 HB5.out.size, HB5.out.trans (b6.mono HB5.out.size)⟩)
  clear ho6 b6
  go_wp2
  go_ret
  exact HR.out
set_option maxRecDepth 100000 in
set_option maxHeartbeats 1600000 in
theorem mwidth_any (v : Value) (T : List Int) (w : World) (hv : Held .i32 w v T) (h0 : 0 < T.length) (hl : T.length ≤ 1000000) : Calls Tryz.prog 19 #[v] w (Gives w (.int .i64 (wdC T))) := by
  obtain ⟨ao, ca, rfl⟩ := hv.len
  obtain ⟨b, off, rfl, _, c0⟩ := hv.spots 0 h0
  rw [Nat.add_zero] at c0
  have HF := Lib.hid (fun w' (h : Below w.heap.size w w') => mfirst_any _ T w' (hv.below h) (by omega))
  have HS := Lib.hid (bsil_any (T.getD 0 0))
  have hbd := wdC_bd T
  have HW := Lib.hid (show silB (T.getD 0 0) = false → rowW (T.take 16) (knownL (T.take 16)) (T.take 16).length = wdC T from fun h => by unfold wdC; rw [if_neg (by rw [h]; decide)])
  have HT := Lib.hid (show (T.take 16).length ≤ 1000000 by rw [List.length_take]; omega)
  obtain ⟨x, hx⟩ : ∃ x, x = T.getD 0 0 := ⟨_, rfl⟩
  rw [← hx] at c0 HS hbd HW
  obtain ⟨n, hn⟩ : ∃ n, n = T.length := ⟨_, rfl⟩
  rw [← hn] at HF h0 hl ⊢
  obtain ⟨F, hF⟩ : ∃ F, F = T.take 16 := ⟨_, rfl⟩
  rw [← hF] at HF HW HT
  obtain ⟨W, hW⟩ : ∃ W, W = wdC T := ⟨_, rfl⟩
  rw [← hW] at hbd HW ⊢
  clear hv hx hn hF hW
  rcases hbd with ⟨hs, hw0⟩ | ⟨hs, hw1, hw2⟩
  · have HZ := Lib.hid hw0
    rw [hs] at HS
    clear hs hw0
    go_enter Tryz.func19, Tryz.ntmps19
    go_wp2_with fail
    refine (HS.out w).mono ?_
    rintro e w1 ⟨rfl, b1⟩
    have HB := Lib.hid b1
    clear b1
    go_wp2
    go_ret
    exact ⟨ret_eq (by rw [HZ.out]; try rfl), HB.out⟩
  · have HE := Lib.hid (HW.out hs)
    rw [hs] at HS
    clear hs hw1 hw2
    go_enter Tryz.func19, Tryz.ntmps19
    go_wp2_with fail
    refine (HS.out w).mono ?_
    rintro e w1 ⟨rfl, b1⟩
    have HB := Lib.hid b1
    clear b1 c0
    go_wp2_with fail
    refine (HF.out w1 HB.out).mono ?_
    rintro e w2 ⟨v2, rfl, ho2, b2⟩
    have hc := cof_any v2 F w2 (held_of_owns ho2) HT.out
    rw [HE.out] at hc
    have HB2 := Lib.hid (HB.out.trans (b2.mono HB.out.size))
    clear ho2 b2
    go_wp2_with fail
    refine hc.mono ?_
    rintro e w3 ⟨rfl, b3⟩
    have HB3 := Lib.hid (HB2.out.trans (b3.mono HB2.out.size))
    clear b3 hc
    go_wp2
    go_ret
    exact ⟨(ret_eq (by first | rfl | (simp <;> omega))), HB3.out⟩
end Go.Proofs.YtkpmmkokfllafaaGreat
/- The reference's First, Wide (21). -/
namespace Go.Proofs.YtkpmmkokfllafaaGreat
open Go.RowKit Go.ChangeShapes Go.WideShapes
set_option maxRecDepth 100000 in
set_option maxHeartbeats 1600000 in
theorem rfirst_any (Z : Zone) (v : Value) (xs : List Int) (w : World) (hv : HeldE (intE .i32) Z w v xs) (hZ : ∀ b, Z b → b < w.heap.size) (h0 : 0 < xs.length) (hl : xs.length ≤ 1000000) : Calls Tryz.prog 39 #[v] w (Cloned 21 .i32 w (xs.take 16)) := by
  obtain ⟨ao, ca, rfl, hcap, hmx, _⟩ := id hv
  obtain ⟨b, off, rfl, hb, _⟩ := hv.ints.spots 0 h0
  obtain ⟨K, hK⟩ : ∃ K, K = min xs.length 16 := ⟨_, rfl⟩
  have HP := Lib.hid (show HeldE (intE .i32) Z w (.slice (some ⟨b, off, none⟩) K ca) (xs.take K) from by
    have hp := hv.part 0 K (Nat.zero_le _) (by omega) (some ⟨b, off, none⟩) ca (fun h => by cases h) (fun b' o' h _ => by cases h; simp) (fun _ _ => by simp) (by omega) hmx
    simpa using hp)
  have HT := Lib.hid (show xs.take K = xs.take 16 from by
    rw [hK]
    by_cases h : xs.length ≤ 16
    · rw [Nat.min_eq_left h, List.take_of_length_le (Nat.le_refl _), List.take_of_length_le h]
    · rw [Nat.min_eq_right (by omega)])
  have HKL := Lib.hid (show (xs.take K).length = K from by rw [List.length_take]; omega)
  obtain ⟨n, hn⟩ : ∃ n, n = xs.length := ⟨_, rfl⟩
  rw [← hn] at hcap hK h0 hl ⊢
  have hmin : min (n : Int) 16 = (K : Int) := by omega
  have hKc : K ≤ ca := by omega
  have hKi : (K : Int) ≤ (ca : Int) := by omega
  have hK16 : K ≤ 16 := by omega
  have HZ := Lib.hid hZ
  obtain ⟨XK, hXK⟩ : ∃ XK, XK = xs.take K := ⟨_, rfl⟩
  rw [← hXK] at HP HT HKL
  have hb1 := (Below.refl w.heap.size w).alloc (Nat.le_refl _) (.cells #[] 21)
  have ho1 : OwnE (intE .i32) (fun _ => True) (w.alloc (.cells #[] 21)) w.heap.size 21 (.slice (some ⟨w.heap.size, 0, none⟩) 0 0) [] := OwnE.empty (World.ownsRow_lit w #[] 0 (Nat.le_refl _) (by decide) rfl)
  have HO1 := Lib.hid ho1
  have HU1 := Lib.hid (show HeldE (intE .i32) (fun b9 => True ∧ (Value.slice (some ⟨w.heap.size, 0, none⟩) 0 0).ownBlock ≠ some b9) (w.alloc (.cells #[] 21)) _ XK from (HP.out.below hb1).zone (fun b9 _ h => ⟨trivial, fun e => by have h9 := (HO1.out.lt _ e).1; have := HZ.out b9 h; omega⟩))
  have HB1 := Lib.hid hb1
  clear hv hn hK hXK hZ hb1 ho1 hmx hb
  go_enter Tryz.func39, Tryz.ntmps39
  go_wp2_with (at_builtin; refine wpList_append_e (E := intE .i32) (Z := fun _ => True) rfl (.tmp 3) (.tmp 8) 34 rfl (.int .i32 0) 4 Tryz.underlying34 info_ru rfl (by decide) rfl rfl HO1.out HU1.out (by rw [HKL.out]; simp only [List.length_nil]; omega) (by rw [HKL.out]; simp only [List.length_nil]; omega) HB1.out.size ?_)
  intro v2 w2 ho2 b2 _ _
  try rw [List.nil_append] at ho2
  have HR := Lib.hid (show Cloned 21 .i32 w (xs.take 16) (.returned v2) w2 from by rw [← HT.out]; exact ⟨v2, rfl, ho2.ints, HB1.out.trans b2⟩)
  clear ho2 b2
  go_wp2
  go_ret
  exact HR.out
set_option maxRecDepth 100000 in
set_option maxHeartbeats 1600000 in
theorem rwide_any (Z : Zone) (v : Value) (T : List Int) (w : World) (hv : HeldE (intE .i32) Z w v T) (hZ : ∀ b, Z b → b < w.heap.size) (h0 : 0 < T.length) (hl : T.length ≤ 1000000) (hr : bounds32 T) : Calls Tryz.prog 38 #[v] w (Gives w (.int .i64 (wdC T))) := by
  obtain ⟨ao, ca, rfl⟩ := hv.len
  obtain ⟨b, off, rfl, _, c0⟩ := hv.ints.spots 0 h0
  rw [Nat.add_zero] at c0
  have HF := Lib.hid (fun w' (h : Below w.heap.size w w') => rfirst_any Z _ T w' (hv.below h) (fun b hb => Nat.lt_of_lt_of_le (hZ b hb) h.size) h0 hl)
  have HS := Lib.hid (rbsil_any (T.getD 0 0))
  have hbd := wdC_bd T
  have HW := Lib.hid (show silB (T.getD 0 0) = false → rowW (T.take 16) (knownL (T.take 16)) (T.take 16).length = wdC T from fun h => by unfold wdC; rw [if_neg (by rw [h]; decide)])
  have HT := Lib.hid (show (T.take 16).length ≤ 1000000 by rw [List.length_take]; omega)
  have HR := Lib.hid (show bounds32 (T.take 16) from fun i hi => by
    rw [List.length_take] at hi
    have := hr i (by omega)
    rw [show (T.take 16).getD i 0 = T.getD i 0 from by simp [List.getD, List.getElem?_take, show i < 16 by omega]]
    exact this)
  obtain ⟨x, hx⟩ : ∃ x, x = T.getD 0 0 := ⟨_, rfl⟩
  rw [← hx] at c0 HS hbd HW
  obtain ⟨n, hn⟩ : ∃ n, n = T.length := ⟨_, rfl⟩
  rw [← hn] at HF h0 hl ⊢
  obtain ⟨F, hF⟩ : ∃ F, F = T.take 16 := ⟨_, rfl⟩
  rw [← hF] at HF HW HT HR
  obtain ⟨W, hW⟩ : ∃ W, W = wdC T := ⟨_, rfl⟩
  rw [← hW] at hbd HW ⊢
  clear hv hx hn hF hW hZ hr
  rcases hbd with ⟨hs, hw0⟩ | ⟨hs, hw1, hw2⟩
  · have HZ := Lib.hid hw0
    rw [hs] at HS
    clear hs hw0
    go_enter Tryz.func38, Tryz.ntmps38
    go_wp2_with fail
    refine (HS.out w).mono ?_
    rintro e w1 ⟨rfl, b1⟩
    have HB := Lib.hid b1
    clear b1
    go_wp2
    go_ret
    exact ⟨ret_eq (by rw [HZ.out]; try rfl), HB.out⟩
  · have HE := Lib.hid (HW.out hs)
    rw [hs] at HS
    clear hs hw1 hw2
    go_enter Tryz.func38, Tryz.ntmps38
    go_wp2_with fail
    refine (HS.out w).mono ?_
    rintro e w1 ⟨rfl, b1⟩
    have HB := Lib.hid b1
    clear b1 c0
    go_wp2_with fail
    refine (HF.out w1 HB.out).mono ?_
    rintro e w2 ⟨v2, rfl, ho2, b2⟩
    have hc := rof19_any v2 F w2 (held_of_owns ho2) HT.out HR.out
    rw [HE.out] at hc
    have HB2 := Lib.hid (HB.out.trans (b2.mono HB.out.size))
    clear ho2 b2
    go_wp2_with fail
    refine hc.mono ?_
    rintro e w3 ⟨rfl, b3⟩
    have HB3 := Lib.hid (HB2.out.trans (b3.mono HB2.out.size))
    clear b3 hc
    go_wp2
    go_ret
    exact ⟨(ret_eq (by first | rfl | (simp <;> omega))), HB3.out⟩
end Go.Proofs.YtkpmmkokfllafaaGreat
/- measure.Columns (21). -/
namespace Go.Proofs.YtkpmmkokfllafaaGreat
open Go.RowKit Go.ChangeShapes Go.WideShapes
attribute [local go_sem] Oper.semAt_some
def sumW (L : List (List Int)) : Int := (L.map wdC).sum
theorem sumW_snoc (L : List (List Int)) (T : List Int) : sumW (L ++ [T]) = sumW L + wdC T := by unfold sumW; simp
theorem sumW_bd : ∀ L : List (List Int), 0 ≤ sumW L ∧ sumW L ≤ 2 * (L.length : Int)
  | [] => by simp [sumW]
  | T :: L => by
    have h1 := sumW_bd L
    have h2 := wdC_bd T
    unfold sumW at h1 ⊢
    simp only [List.map_cons, List.sum_cons, List.length_cons]
    omega
def colsC (xs : List Int) : Int := sumW (cluA xs)
theorem colsC_bd (xs : List Int) : 0 ≤ colsC xs ∧ colsC xs ≤ 2 * (xs.length : Int) := by
  have h1 := sumW_bd (cluA xs)
  have h2 := cluA_len xs
  have h3 := startB_len (jR (knownL xs)) xs.length
  unfold colsC
  omega
/-- What is known of a cluster that comes. -/
theorem cu_pos {xs : List Int} {lo hi : Nat} {x : Cu} {W : World} (h : XCu xs lo hi x W) : 0 < (sliceL xs x.p).length ∧ (sliceL xs x.p).length ≤ xs.length := by
  obtain ⟨g, hv, h1, h2, h3, h4, h5, h6⟩ := h
  rw [sliceL_len xs x.p (Nat.le_of_lt h4) h5]
  omega
theorem pre_len {xs : List Int} {pre : List Cu} {x : Cu} (h : (pre ++ [x]).map Cu.p <+: clS xs) : pre.length + 1 ≤ xs.length := by
  have h9 := h.length_le
  rw [List.length_map, List.length_append, List.length_singleton] at h9
  have := clS_len xs
  omega
def ColI (w : World) (bx lo : Nat) (xs : List Int) (hi : Nat) (pre : List Cu) (W : World) : Prop := lo ≤ hi ∧ Has W bx [.int .i64 (sumW (cluL xs pre))] 3 ∧ Below w.heap.size w W ∧ hi ≤ W.heap.size ∧ pre.length ≤ 1000000
set_option maxRecDepth 100000 in
set_option maxHeartbeats 3000000 in
theorem mcols_any (v : Value) (xs : List Int) (w : World) (hx : Held .i32 w v xs) (hn : xs.length ≤ 1000000) : Calls Tryz.prog 11 #[v] w (Gives w (.int .i64 (colsC xs))) := by
  obtain ⟨ao, ca, rfl⟩ := hx.len
  refine (callsIn_wide (n := 9)).1 ?_
  have b1 : Below w.heap.size w (w.alloc (.cells #[.int .i64 0] 3)) := (Below.refl _ _).alloc (Nat.le_refl _) _
  have HC := Lib.hid (gall_any _ xs _ (hx.below b1) hn)
  have HBX := Lib.hid (Has.new w [.int .i64 0] 3)
  have HB1 := Lib.hid b1
  clear hx b1
  refine callsIn_of_wp_marks Tryz.func11 rfl trivial ?_ rfl
  simp only [Tryz.ntmps11, List.size_toArray, List.length_cons, List.length_nil, Nat.reduceAdd, Nat.reduceSub, Array.replicate_succ, Array.replicate_zero, List.push_toArray, List.append_toArray, List.nil_append, List.cons_append]
  gi_wp2_with fail
  first | refine ⟨trivial, (fun h => absurd h (by decide)), (callsIn_wide.2 (HC.out)).mono ?_⟩ | refine ⟨trivial, (callsIn_wide.2 (HC.out)).mono ?_⟩
  rintro e w1 ⟨B, vk, rfl, hB, hk, b1, hBl⟩
  have hbx := HBX.out.below b1 HBX.out.lt
  have HX := Lib.hid hbx
  have HW := Lib.hid (HB1.out.trans (b1.mono HB1.out.size))
  have HLT := Lib.hid (show w.heap.size < w1.heap.size from hbx.lt)
  have h1 : 1 ≤ 9 := by decide
  gi_wp2_with fail
  refine wpIn_rangeO rfl h1 (gf := 28) (lb := #[.pointer (some ⟨B, 0, none⟩)]) rfl trivial (enters_of Tryz.func28 (by kernel_rfl) rfl) (gall1_in B vk xs w1 hB hk hn _ (fun b => b = w.heap.size)) (Below.refl _ _) (fun _ => rfl) (fun b e => by subst e; exact HLT.out)
    (ColI w w.heap.size (w1.heap.size + 2) xs) (fun _ _ _ _ => False) ?hI (fun _ _ _ _ _ h _ => h) ?h0 (fun x => { tmps := #[.slice ao xs.length ca, undef, .int .i64 0, .pointer (some ⟨w.heap.size, 0, none⟩), undef, x.v, .slice ao xs.length ca, .func (.func 28) #[] #[.pointer (some ⟨B, 0, none⟩)], .int .i64 (x.p.1 : Int), x.v, undef, undef, undef, undef, undef], defers := [] }) ?assign ?body ?done ?stop
  case hI =>
    rintro hi pre A A' ⟨hlo, h1, h3, h4, h5⟩ hu
    exact ⟨hlo, hu.keep.has h1 (fun e => by have := HLT.out; omega), h3.upd hu h3.size (fun b e => by have := HLT.out; omega), Nat.le_trans h4 hu.size, h5⟩
  case h0 =>
    intro hi W1 hb h1 h2
    exact ⟨h1, HX.out.below hb HX.out.lt, HW.out.trans (hb.mono HW.out.size), h2, Nat.zero_le _⟩
  case assign =>
    intro l x W K hK
    unfold encCu
    gi_wp2
    exact hK
  case stop =>
    intro hi c pre W _ h _
    exact h.elim
  case done =>
    rintro hi ys W hS ⟨hlo, h1, h3, h4, h5⟩ hK
    rw [cluL_all hS, show sumW (cluA xs) = colsC xs from rfl] at h1
    have c1 := h1.cell 0 _ rfl
    have HE := Lib.hid (h3.upd (upd_putObj (S := fun b => b = w1.heap.size) W w1.heap.size (.deferred none) rfl) h3.size (fun b e => by have := HLT.out; omega))
    clear h1 h3
    gi_wp2
    refine ⟨by simp, .inl ⟨_, _, rfl, run_takeDeferred hK, ?_⟩⟩
    exact ⟨.int .i64 (colsC xs), by simp [results, Tryz.results11, go_sem], rfl, HE.out⟩
  case body =>
    rintro l hi pre x W hlo hhi ⟨_, h1, h3, h4, h5⟩ ⟨Wx, hx, hux⟩ hR
    have hx := hx.upd hux (fun b h1 h2 => by omega)
    have HXV := Lib.hid hx.held
    have HXP := Lib.hid (cu_pos hx)
    have hpl := pre_len hR
    have HPL := Lib.hid (show pre.length + 1 ≤ 1000000 by omega)
    have HDD := Lib.hid (show w.heap.size < hi from by have := HLT.out; omega)
    have HHI := Lib.hid (And.intro hlo hhi)
    have HL := Lib.hid h3
    have HH := Lib.hid h1
    have hsn : sumW (cluL xs (pre ++ [x])) = sumW (cluL xs pre) + wdC (sliceL xs x.p) := by rw [show cluL xs (pre ++ [x]) = cluL xs pre ++ [sliceL xs x.p] from by simp [cluL], sumW_snoc]
    have HSN := Lib.hid hsn
    have hsb := sumW_bd (cluL xs pre)
    have hcl : (cluL xs pre).length = pre.length := by simp [cluL]
    have hwb := wdC_bd (sliceL xs x.p)
    obtain ⟨T, hT⟩ : ∃ T, T = sliceL xs x.p := ⟨_, rfl⟩
    rw [← hT] at HXV HXP HSN hwb
    obtain ⟨xv, hxv⟩ : ∃ xv, xv = x.v := ⟨_, rfl⟩
    rw [← hxv] at HXV ⊢
    obtain ⟨s, hs⟩ : ∃ s, s = sumW (cluL xs pre) := ⟨_, rfl⟩
    rw [← hs] at HSN hsb HH
    obtain ⟨wd, hwd⟩ : ∃ wd, wd = wdC T := ⟨_, rfl⟩
    have HWD := Lib.hid (show ∀ w', Below W.heap.size W w' → Calls Tryz.prog 19 #[xv] w' (Gives w' (.int .i64 wd)) from fun w' h => by rw [hwd]; exact mwidth_any xv T w' (HXV.out.below h) HXP.out.1 (by have := HXP.out; omega))
    rw [← hwd] at HSN hwb
    have hsw : IntKind.i64.wrap (s + wd) = s + wd := by rw [IntKind.wrap_i64]; omega
    clear hx hux hR hpl h1 h3 h4 hsn hcl hT hxv hs hwd h5
    gi_wp2
    obtain ⟨Erg, hErg⟩ : ∃ EE : Nat → Value → World → Prop, EE = fun jj xx ww => match jj with
        | 0 => xx = .int .i64 s
        | 1 => xx = xv
        | 2 => xx = .int .i64 wd
        | 3 => xx = .int .i64 (s + wd)
        | 4 => xx = undef
        | _ => True := ⟨_, rfl⟩
    have erg0 : ∀ xx ww, Erg 0 xx ww = (xx = .int .i64 s) := fun xx ww => congrFun (congrFun (congrFun hErg 0) xx) ww
    have erg1 : ∀ xx ww, Erg 1 xx ww = (xx = xv) := fun xx ww => congrFun (congrFun (congrFun hErg 1) xx) ww
    have erg2 : ∀ xx ww, Erg 2 xx ww = (xx = .int .i64 wd) := fun xx ww => congrFun (congrFun (congrFun hErg 2) xx) ww
    have erg3 : ∀ xx ww, Erg 3 xx ww = (xx = .int .i64 (s + wd)) := fun xx ww => congrFun (congrFun (congrFun hErg 3) xx) ww
    have erg4 : ∀ xx ww, Erg 4 xx ww = (xx = undef) := fun xx ww => congrFun (congrFun (congrFun hErg 4) xx) ww
    obtain ⟨Crg, hCrg⟩ : ∃ CC : Array Bool → World → Prop, CC = fun L8 w' => (Mix.one L8 4 = 0 → Below W.heap.size W w') ∧ (Mix.one L8 4 = 1 → Has w' w.heap.size [.int .i64 (s + wd)] 3 ∧ Upd (fun b => b = w.heap.size) W w') := ⟨_, rfl⟩
    have krg : ∀ i L w, i ≠ 4 →  Crg L w → Crg (L.setIfInBounds i true) w := by
      intro i L w q4 h
      rw [hCrg] at h ⊢
      simp only [Mix.one_ne q4]; exact h
    obtain ⟨Xrg, hXrg⟩ : ∃ XX : World → World → Prop, XX = fun x y => Upd (fun b => b = w.heap.size) x y := ⟨_, rfl⟩
    have xrg : ∀ w, Xrg w w := fun w => by rw [hXrg]; exact Upd.refl _ _
    have strg : ∀ j x w w1, Xrg w w1 → Erg j x w → Erg j x w1 := by
      intro j x w w1 hx h
      rw [hXrg] at hx
      match j with
      | 0 => rw [erg0] at h ⊢; exact h
      | 1 => rw [erg1] at h ⊢; exact h
      | 2 => rw [erg2] at h ⊢; exact h
      | 3 => rw [erg3] at h ⊢; exact h
      | 4 => rw [erg4] at h ⊢; exact h
      | j + 5 => rw [hErg]; trivial
    have crg : Crg (Array.replicate 5 false) W.drew := by rw [hCrg]; exact ⟨fun _ => (Below.refl _ _).drew, fun e => absurd e (by decide)⟩
    have brg : ∀ L w w1, Crg L w → Below w.heap.size w w1 → Crg L w1 := by
      intro L w w1 h hb
      rw [hCrg] at h ⊢
      (obtain ⟨q1, q2⟩ := h; exact ⟨fun e => (q1 e).trans (hb.mono (q1 e).size), fun e => ⟨(q2 e).1.below hb (q2 e).1.lt, (q2 e).2.trans (.ofBelow hb)⟩⟩)
    have xbrg : ∀ w w1, Below w.heap.size w w1 → Xrg w w1 := by
      intro w w1 hb
      rw [hXrg]
      exact Upd.ofBelow hb
    have Hrgb := Lib.hid brg
    have Hrgxb := Lib.hid xbrg
    clear brg xbrg
    clear hErg
    have Hrgk := Lib.hid krg
    have Hrgx := Lib.hid xrg
    have Hrgst := Lib.hid strg
    have Hrgc := Lib.hid crg
    have HrghC := Lib.hid hCrg
    have HrghX := Lib.hid hXrg
    have Hrge0 := Lib.hid erg0
    have Hrge1 := Lib.hid erg1
    have Hrge2 := Lib.hid erg2
    have Hrge3 := Lib.hid erg3
    have Hrge4 := Lib.hid erg4
    clear krg xrg strg crg hCrg hXrg erg0 erg1 erg2 erg3 erg4
    gi_wp2_with fail
    refine Reg.regionFIn (fun _ => trivial) rfl Reg.calls_round (by kernel_rfl) Erg Crg Xrg Hrgst.out (by kernel_rfl) (by kernel_rfl) (by kernel_rfl) Hrgc.out (fun Frg hFrg => ?_)
    simp only [Reg.frame, Reg.dsts, List.map_cons, List.map_nil, Mix.put_lit, Reg.put_none, List.set_cons_succ, List.set_cons_zero, Nat.zero_add, Nat.reduceAdd] at hFrg
    refine ⟨?_, ?_⟩
    · refine ⟨?_, ?_, ?_, ?_, ?_, trivial⟩
      · intro Lq wq xq hh
        simp only [hFrg]
        refine .inl ⟨rfl, ?_⟩
        unfold Reg.upon
        have hc : Crg Lq wq := hh.cls
        rw [HrghC.out] at hc
        have q0 := ((hc.1 (Mix.one_un (hh.notYet 4 (by kernel_rfl)))).cell (p := ⟨w.heap.size, 0, none⟩) HH.out.lt).trans (HH.out.cell 0 _ rfl)
        clear hc
        have hk := Hrgk.out 0 Lq wq (by decide)  hh.cls
        have hx := Hrgx.out wq
        have he : Erg 0 (.int .i64 s) wq := by rw [Hrge0.out]
        have HK := Lib.hid (And.intro hk (And.intro he hx))
        clear hk hx he
        go_simp
        exact HK.out
      · intro Lq wq xq hh
        simp only [hFrg]
        refine .inl ⟨rfl, ?_⟩
        unfold Reg.upon
        have hk := Hrgk.out 1 Lq wq (by decide)  hh.cls
        have hx := Hrgx.out wq
        have he : Erg 1 (xv) wq := by rw [Hrge1.out]
        have HK := Lib.hid (And.intro hk (And.intro he hx))
        clear hk hx he
        go_simp
        exact HK.out
      · intro Lq wq xq hh
        have d1 : Erg 1 (xq 1) wq := hh.val 1 (by kernel_rfl) (by kernel_rfl)
        rw [Hrge1.out] at d1
        simp only [hFrg, d1]
        clear d1
        refine .inl ⟨rfl, ?_⟩
        unfold Reg.upon
        have hc : Crg Lq wq := hh.cls
        rw [HrghC.out] at hc
        go_simp
        refine (HWD.out wq (hc.1 (Mix.one_un (hh.notYet 4 (by kernel_rfl))))).mono ?_
        rintro e w2 ⟨rfl, hb⟩
        exact ⟨_, rfl, Hrgk.out 2 Lq w2 (by decide) (Hrgb.out Lq wq w2 hh.cls hb), (by rw [Hrge2.out]), Hrgxb.out wq w2 hb⟩
      · intro Lq wq xq hh
        have d0 : Erg 0 (xq 0) wq := hh.val 0 (by kernel_rfl) (by kernel_rfl)
        rw [Hrge0.out] at d0
        have d2 : Erg 2 (xq 2) wq := hh.val 2 (by kernel_rfl) (by kernel_rfl)
        rw [Hrge2.out] at d2
        simp only [hFrg, d0, d2]
        clear d0 d2
        refine .inl ⟨rfl, ?_⟩
        unfold Reg.upon
        have hk := Hrgk.out 3 Lq wq (by decide)  hh.cls
        have hx := Hrgx.out wq
        have he : Erg 3 (.int .i64 (s + wd)) wq := by rw [Hrge3.out]
        have HK := Lib.hid (And.intro hk (And.intro he hx))
        clear hk hx he
        go_simp
        exact HK.out
      · intro Lq wq xq hh
        have d3 : Erg 3 (xq 3) wq := hh.val 3 (by kernel_rfl) (by kernel_rfl)
        rw [Hrge3.out] at d3
        simp only [hFrg, d3]
        clear d3
        refine .inl ⟨rfl, ?_⟩
        unfold Reg.upon
        have hc : Crg Lq wq := hh.cls
        rw [HrghC.out] at hc
        have hbq := hc.1 hh.un
        have h4 := HH.out.below hbq HH.out.lt
        have c9 := h4.cell 0 _ rfl
        have f9 := h4.free 0
        have h5 := h4.set 0 (.int .i64 (s + wd))
        have u5 := (Upd.refl (fun b => b = w.heap.size) wq).setCell (p := ⟨w.heap.size, 0, none⟩) (.inl rfl) (.int .i64 (s + wd))
        have hF : Crg (Lq.setIfInBounds 4 true) (World.setCell wq ⟨w.heap.size, 0, none⟩ (.int .i64 (s + wd))) ∧ Erg 4 undef (World.setCell wq ⟨w.heap.size, 0, none⟩ (.int .i64 (s + wd))) ∧ Xrg wq (World.setCell wq ⟨w.heap.size, 0, none⟩ (.int .i64 (s + wd))) := by
          refine ⟨?_, by rw [Hrge4.out], by rw [HrghX.out]; exact u5⟩
          rw [HrghC.out]
          exact ⟨fun e9 => (by rw [Mix.one_set (by rw [hh.size]; decide)] at e9; exact absurd e9 (by decide)), fun _ => ⟨h5, (Upd.ofBelow hbq).trans u5⟩⟩
        clear hc h5 u5 h4 hbq
        go_simp
        try exact hF
    intro xq wrg hcrg hvrg
    rw [HrghC.out] at hcrg
    simp only [hFrg]
    clear hvrg hFrg Hrgk Hrgx Hrgst Hrgc HrghC HrghX Hrgb Hrgxb Hrge0 Hrge1 Hrge2 Hrge3 Hrge4
    obtain ⟨q1, q2⟩ := hcrg.2 (by kernel_rfl)
    have HF1 := Lib.hid (q2.mono (fun b _ e => (.inl e : b = w.heap.size ∨ hi ≤ b)))
    have HF2 := Lib.hid (show ColI w w.heap.size (w1.heap.size + 2) xs hi (pre ++ [x]) wrg from ⟨HHI.out.1, by rw [HSN.out]; exact q1, HL.out.upd q2 HL.out.size (fun b e => by omega), Nat.le_trans HHI.out.2 q2.size, by rw [List.length_append, List.length_singleton]; exact HPL.out⟩)
    clear hcrg q1 q2
    gi_wp2
    exact ⟨HF1.out, HF2.out⟩
end Go.Proofs.YtkpmmkokfllafaaGreat
/- measure.Items (21). -/
namespace Go.Proofs.YtkpmmkokfllafaaGreat
open Go.RowKit Go.ChangeShapes Go.WideShapes
attribute [local go_sem] Oper.semAt_some
/-- A text that may be written. -/
def frE (k : IntKind) : Elem (List Int) where
  size := 1
  zero := []
  rep := fun Z w C L => ∃ v, C = [v] ∧ HeldE (intE k) Z w v L ∧ ∀ b, v.ownBlock = some b → Z b ∧ b < w.heap.size ∧ ∃ D t, w.heap[b]? = some (.cells D t)
  len := by rintro _ _ _ _ ⟨v, rfl, _⟩; rfl
  one := by
    rintro _ _ _ _ ⟨v, rfl, h, _⟩ u hu
    simp at hu
    subst hu
    obtain ⟨ao, cap, rfl, _⟩ := h
    rfl
  keep := by
    rintro _ _ _ _ _ _ hk hy ⟨v, rfl, h, h2⟩
    refine ⟨v, rfl, h.keep hk hy, fun b e => ?_⟩
    obtain ⟨h3, h4, D, t, h5⟩ := h2 b e
    exact ⟨hy b h4 h3, Nat.lt_of_lt_of_le h4 hk.size, D, t, (hk.block b h4 h3).trans h5⟩
def itmE : Elem (Int × List Int) := prE (intE .i64) (frE .i32)
theorem itm_rep {Z : Zone} {w : World} {C : List Value} {x : Int × List Int} : itmE.rep Z w C x ↔ ∃ tv, C = [.int .i64 x.1, tv] ∧ HeldE (intE .i32) Z w tv x.2 ∧ ∀ b, tv.ownBlock = some b → Z b ∧ b < w.heap.size ∧ ∃ D t, w.heap[b]? = some (.cells D t) := by
  constructor
  · rintro ⟨C1, C2, rfl, rfl, tv, rfl, h⟩
    exact ⟨tv, rfl, h⟩
  · rintro ⟨tv, rfl, h⟩
    exact ⟨[_], [tv], rfl, rfl, tv, rfl, h⟩
/-- A row of the call's own is a text that may be written. -/
theorem fr_own {Z : Zone} {w : World} {B n : Nat} {ty : TypeId} {v : Value} {xs : List Int} (h : w.ownsRow B ty 1 v n (xs.map (Value.int .i32))) (hz : ∀ b, B ≤ b → b < w.heap.size → Z b) : HeldE (intE .i32) Z w v xs ∧ ∀ b, v.ownBlock = some b → Z b ∧ b < w.heap.size ∧ ∃ D t, w.heap[b]? = some (.cells D t) := by
  refine ⟨(ownE_ints (Z := Z) h).held hz, fun b e => ?_⟩
  have hl := (ownE_ints (Z := fun _ => True) h).lt b e
  refine ⟨hz b hl.1 hl.2, hl.2, ?_⟩
  rcases h.2 with ⟨rfl, _⟩ | ⟨g, cap, cur, rfl, _, hg, _⟩
  · cases e
  · simp [Value.ownBlock] at e
    subst e
    exact ⟨cur, ty, hg⟩
theorem info_item : (Tryz.prog.info? 54).map (fun i => (i.zero, i.size, i.bytes)) = some (some (.agg #[.int .i64 0, .slice none 0 0]), itmE.size, 32) := by kernel_rfl
/-- A slice value of a text that may be written. -/
def FrT (Z : Zone) (w : World) (v : Value) (L : List Int) : Prop := HeldE (intE .i32) Z w v L ∧ ∀ b, v.ownBlock = some b → Z b ∧ b < w.heap.size ∧ ∃ D t, w.heap[b]? = some (.cells D t)
theorem itm_upd {Z S : Zone} {w w' : World} {v : Value} {L : List Int} (h : FrT Z w v L) (hu : Upd S w w') (hs : ∀ b, Z b → S b → False) : FrT Z w' v L := by
  refine ⟨h.1.upd hu (fun b hb e => hs b hb e), fun b e => ?_⟩
  obtain ⟨h3, h4, D, t, h5⟩ := h.2 b e
  exact ⟨h3, Nat.lt_of_lt_of_le h4 hu.size, D, t, (hu.keep.block b h4 (fun e => hs b h3 e)).trans h5⟩
theorem agg_upd {Z S : Zone} {w w' : World} {x : Value} {d : Int} {L : List Int} (h : ∃ v9, x = .agg #[.int .i64 d, v9] ∧ FrT Z w v9 L) (hu : Upd S w w') (hs : ∀ b, Z b → S b → False) : ∃ v9, x = .agg #[.int .i64 d, v9] ∧ FrT Z w' v9 L := by
  obtain ⟨v9, e, h⟩ := h
  exact ⟨v9, e, itm_upd h hu hs⟩
def itemsL (L : List (List Int)) : List (Int × List Int) := (L.filter fun T => !silB (T.getD 0 0)).map fun T => (wdC T, T.take 16)
def itemsC (xs : List Int) : List (Int × List Int) := itemsL (cluA xs)
theorem itemsL_len (L : List (List Int)) : (itemsL L).length ≤ L.length := by unfold itemsL; rw [List.length_map]; exact List.length_filter_le _ _
theorem itemsL_sil (L : List (List Int)) {T : List Int} (h : silB (T.getD 0 0) = true) : itemsL (L ++ [T]) = itemsL L := by
  unfold itemsL
  simp only [List.filter_append, List.map_append, List.filter_cons, List.filter_nil, h, Bool.not_true, Bool.false_eq_true, if_false, List.map_nil, List.append_nil]
theorem itemsL_add (L : List (List Int)) {T : List Int} (h : silB (T.getD 0 0) = false) : itemsL (L ++ [T]) = itemsL L ++ [(wdC T, T.take 16)] := by
  unfold itemsL
  simp only [List.filter_append, List.map_append, List.filter_cons, List.filter_nil, h, Bool.not_false, if_true, List.map_cons, List.map_nil]
def MadeItm (w : World) (L : List (Int × List Int)) (e : Ending) (w' : World) : Prop := ∃ v', e = .returned v' ∧ OwnE itmE (fun b => w.heap.size ≤ b) w' w.heap.size 54 v' L ∧ Below w.heap.size w w'
def ItmI (w : World) (bx lo : Nat) (xs : List Int) (hi : Nat) (pre : List Cu) (W : World) : Prop := lo ≤ hi ∧ ∃ va, Has W bx [va] 51 ∧ OwnE itmE (fun b => hi ≤ b) W hi 54 va (itemsL (cluL xs pre)) ∧ Below w.heap.size w W ∧ hi ≤ W.heap.size ∧ pre.length ≤ 1000000
end Go.Proofs.YtkpmmkokfllafaaGreat
