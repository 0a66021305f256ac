/- Texts put together: GraO, GraT, GraQ, GraR, MeaA, MeaB, MeaC, FlnM, TbsA, TbsB, TbsC. -/
import Derived.Test.YtgkcobmbdpgceaaGraN
import Derived.Test.YtgkcobmbdpgceaaMg1
import Derived.Test.YtgkcobmbdpgceaaMg2
import Derived.Test.YtgkcobmbdpgceaaCluN
import Derived.Test.YtgkcobmbdpgceaaMg6
import Derived.Test.YtgkcobmbdpgceaaBasewW
import Derived.Lib.MinMax
import Derived.Deep.Cut
/- Count; the works of layer 16. -/
namespace Go.Proofs.Ytgkcobmbdpgceaa
open Go.RowKit Go.ChangeShapes Go.WideShapes
theorem clu_first : cluA [101, 769, 97] = [[101, 769], [97]] := by decide +kernel
theorem count_flags : (startB (jR (knownL [127465, 127466, 127467])) 3).length = 2 := by decide +kernel
end Go.Proofs.Ytgkcobmbdpgceaa
/- Rows of numbers that are arguments. -/
namespace Go.Proofs.Ytgkcobmbdpgceaa
open Go.RowKit Go.ChangeShapes Go.WideShapes
theorem bounds_of {xs : List Int} (hp : ∀ x ∈ xs, (Lit.int .i32 x).wf = true) : bounds32 xs := by
  intro i hi
  have hm : xs.getD i 0 ∈ xs := by simp [List.getD, List.getElem?_eq_getElem hi]
  have hw := hp _ hm
  simp [Lit.wf] at hw
  exact hw
set_option maxRecDepth 100000 in
theorem runes_arg {H : Type} {enc : TypeId × Value → H} {W : World} {base : Nat} {v : Value} {d : DataW H} {p : List MemPlace} (hv : Value.okWide Try.prog W .any base 22 v) (h : DataW.Trod enc Try.prog W 0 (fun _ => true) true 22 v d p) : ∃ L, HeldE (intE .i32) (fun b => b < W.heap.size) W v L ∧ bounds32 L := by
  obtain ⟨L, hL, hk⟩ := opens_arg (E := intE .i32) Try.underlying22 (by kernel_rfl) (by decide) (opens_int Try.underlying21 (by kernel_rfl)) hv h
  exact ⟨L, hL, bounds_of hk⟩
end Go.Proofs.Ytgkcobmbdpgceaa
/- Clusters in a row: what came so far is the beginning of the row. -/
namespace Go.Proofs.Ytgkcobmbdpgceaa
open Go.RowKit Go.ChangeShapes Go.WideShapes
theorem startB_head (j : Nat → Bool) (h0 : j 0 = false) (n : Nat) (h : 0 < n) : (startB j n).getD 0 0 = 0 := by
  have : 0 ∈ startB j n := startB_mem.2 ⟨h, h0⟩
  unfold startB
  obtain ⟨m, rfl⟩ : ∃ m, n = m + 1 := ⟨n - 1, by omega⟩
  rw [List.range_succ_eq_map, List.filter_cons_of_pos (by rw [h0]; rfl)]
  rfl
/-- Where the first k end. -/
def endC (xs : List Int) (k : Nat) : Nat := (startB (jR (knownL xs)) xs.length ++ [xs.length]).getD k 0
theorem endC_zero (xs : List Int) : endC xs 0 = 0 := by
  unfold endC
  rcases Nat.eq_zero_or_pos xs.length with h | h
  · rw [h]; rfl
  · have h1 := startB_head (jR (knownL xs)) (jR_zero _) xs.length h
    have hne : 0 < (startB (jR (knownL xs)) xs.length).length := List.length_pos_of_mem (startB_mem.2 ⟨h, jR_zero _⟩)
    rw [List.getD, List.getElem?_append_left hne]
    exact h1
theorem clS_at (xs : List Int) (k : Nat) (h : k < (clS xs).length) : (clS xs).getD k (0, 0) = (endC xs k, endC xs (k + 1)) :=
  spansB_at (jR (knownL xs)) (jR_zero _) xs.length k (by rw [← spansB_len _ (jR_zero _)]; exact h)
theorem clS_ok (xs : List Int) (k : Nat) (h : k < (clS xs).length) : endC xs k < endC xs (k + 1) ∧ endC xs (k + 1) ≤ xs.length := by
  have hm : (clS xs).getD k (0, 0) ∈ clS xs := by
    rw [List.getD, List.getElem?_eq_getElem h]
    exact List.getElem_mem _
  have := spansB_ok _ _ _ hm
  rw [clS_at xs k h] at this
  exact this
theorem endC_last (xs : List Int) : endC xs (clS xs).length = xs.length := by
  unfold endC
  have : (clS xs).length = (startB (jR (knownL xs)) xs.length).length := spansB_len _ (jR_zero _) _
  rw [this, List.getD, List.getElem?_append_right (Nat.le_refl _), Nat.sub_self]
  rfl
theorem flat_take (xs : List Int) : ∀ k, k ≤ (clS xs).length → (((clS xs).take k).map (sliceL xs)).flatten = xs.take (endC xs k)
  | 0, _ => by rw [endC_zero]; simp
  | k + 1, h => by
    have ih := flat_take xs k (by omega)
    rw [List.take_succ_eq_append_getElem (by omega), List.map_append, List.flatten_append, ih]
    have e : (clS xs)[k]'(by omega) = (endC xs k, endC xs (k + 1)) := by
      rw [← clS_at xs k (by omega)]
      simp [List.getD, List.getElem?_eq_getElem (show k < (clS xs).length by omega)]
    simp only [List.map_cons, List.map_nil, List.flatten_cons, List.flatten_nil, List.append_nil]
    rw [e]
    exact sliceL_next xs _ _ (Nat.le_of_lt (clS_ok xs k (by omega)).1)
theorem endC_le (xs : List Int) (k : Nat) (h : k ≤ (clS xs).length) : endC xs k ≤ xs.length := by
  rcases Nat.eq_zero_or_pos k with e | e
  · rw [e, endC_zero]; exact Nat.zero_le _
  · obtain ⟨m, rfl⟩ : ∃ m, k = m + 1 := ⟨k - 1, by omega⟩
    exact (clS_ok xs m (by omega)).2
/-- What a round is told: the next cluster. -/
theorem next_cu {xs : List Int} {pre : List Cu} {x : Cu} (h : (pre ++ [x]).map Cu.p <+: clS xs) : pre.length < (clS xs).length ∧ x.p = (endC xs pre.length, endC xs (pre.length + 1)) ∧ pre.map Cu.p = (clS xs).take pre.length := by
  have hl := h.length_le
  rw [List.length_map, List.length_append, List.length_singleton] at hl
  have ht := List.prefix_iff_eq_take.1 h
  rw [List.length_map, List.length_append, List.length_singleton, List.map_append] at ht
  have h1 : (pre.map Cu.p ++ [x.p]).take pre.length = ((clS xs).take (pre.length + 1)).take pre.length := by rw [← ht]; rfl
  have h2 : (pre.map Cu.p ++ [x.p]).getD pre.length (0, 0) = ((clS xs).take (pre.length + 1)).getD pre.length (0, 0) := by rw [← ht]; rfl
  rw [List.take_take, List.take_left' (by simp), Nat.min_eq_left (by omega)] at h1
  refine ⟨by omega, ?_, h1⟩
  rw [List.getD, List.getElem?_append_right (by simp)] at h2
  simp only [List.length_map, Nat.sub_self, List.getElem?_cons_zero, Option.getD_some] at h2
  rw [h2]
  have e : ((clS xs).take (pre.length + 1)).getD pre.length (0, 0) = (clS xs).getD pre.length (0, 0) := by simp [List.getD, List.getElem?_take]
  rw [e, clS_at xs _ (by omega)]
end Go.Proofs.Ytgkcobmbdpgceaa
/- Clusters of two rows, of which the second one begins with one that breaks: numbers alone. -/
namespace Go.Proofs.Ytgkcobmbdpgceaa
open Go.RowKit Go.ChangeShapes Go.WideShapes
def apartT (A B : List (Int × Int)) : Bool := A.all fun p => B.all fun q => decide (p.2 < q.1) || decide (q.2 < p.1)
theorem apart_tab {A B : List (Int × Int)} (h : apartT A B = true) {r : Int} (ha : inTab A r = true) : inTab B r = false := by
  cases hb : inTab B r with
  | false => rfl
  | true =>
    obtain ⟨p, hp, h1⟩ := List.any_eq_true.1 ha
    obtain ⟨q, hq, h2⟩ := List.any_eq_true.1 hb
    have h3 := List.all_eq_true.1 (List.all_eq_true.1 h p hp) q hq
    simp at h1 h2 h3
    omega
theorem ctrl_pict : apartT tControl tPict = true := by decide +kernel
theorem ctrl_cons : apartT tControl tCons = true := by decide +kernel
theorem ctrl_link : apartT tControl tLink = true := by decide +kernel
theorem ctrl_join : apartT tControl tJoin = true := by decide +kernel
theorem class_ends (r : Int) : classI r = 0 ∨ 9 ≤ classI r := by
  unfold classI
  repeat' split
  all_goals omega
/-- What breaks on both sides is no picture, and has no part in a conjunct. -/
theorem ctrl_plain {r : Int} (h : 1 ≤ gcbI r ∧ gcbI r ≤ 3) : inTab tPict r = false ∧ conjO r = 0 := by
  have hc : r = 13 ∨ r = 10 ∨ inTab tControl r = true := by
    by_cases h1 : r = 13
    · exact .inl h1
    by_cases h2 : r = 10
    · exact .inr (.inl h2)
    right; right
    cases hi : inTab tControl r with
    | true => rfl
    | false =>
      exfalso
      unfold gcbI listedI at h
      rw [if_neg h1, if_neg h2, hi] at h
      simp only [Bool.false_eq_true, if_false] at h
      have hcl := class_ends r
      repeat' split at h
      all_goals omega
  rcases hc with rfl | rfl | hc
  · exact ⟨by decide +kernel, by decide +kernel⟩
  · exact ⟨by decide +kernel, by decide +kernel⟩
  · refine ⟨apart_tab ctrl_pict hc, ?_⟩
    unfold conjO
    rw [apart_tab ctrl_cons hc, apart_tab ctrl_link hc, apart_tab ctrl_join hc]
    rfl
theorem sts_congr {xs ys : List Pr} : ∀ k, (∀ i, i < k → xs.getD i Pr.none = ys.getD i Pr.none) → cSt xs k = cSt ys k ∧ pSt xs k = pSt ys k ∧ oSt xs k = oSt ys k ∧ lSt xs k = lSt ys k
  | 0, _ => ⟨rfl, rfl, rfl, rfl⟩
  | k + 1, h => by
    obtain ⟨h1, h2, h3, _⟩ := sts_congr k fun i hi => h i (by omega)
    have h5 := h k (by omega)
    simp only [cSt, pSt, oSt, lSt]
    rw [h1, h2, h3, h5]
    exact ⟨rfl, rfl, rfl, rfl⟩
theorem jR_congr {xs ys : List Pr} (k : Nat) (h : ∀ i, i < k + 1 → xs.getD i Pr.none = ys.getD i Pr.none) : jR xs k = jR ys k := by
  obtain ⟨h1, h2, h3, h4⟩ := sts_congr k fun i hi => h i (by omega)
  rw [jR_st, jR_st, h1, h2, h3, h4, h k (by omega)]
theorem known_left (a b : List Int) (i : Nat) (h : i < a.length) : (knownL (a ++ b)).getD i Pr.none = (knownL a).getD i Pr.none := by
  unfold knownL
  rw [List.map_append]
  simp [List.getD, List.getElem?_append_left (show i < (a.map knownPr).length by simpa using h)]
theorem known_right (a b : List Int) (i : Nat) : (knownL (a ++ b)).getD (a.length + i) Pr.none = (knownL b).getD i Pr.none := by
  unfold knownL
  rw [List.map_append, List.getD, List.getElem?_append_right (by simp)]
  simp [List.getD]
theorem sts_shift {a b : List Int} {r : Int} {t : List Int} (hb : b = r :: t) (hr : 1 ≤ gcbI r ∧ gcbI r ≤ 3) : ∀ i, cSt (knownL (a ++ b)) (a.length + (i + 1)) = cSt (knownL b) (i + 1) ∧ pSt (knownL (a ++ b)) (a.length + (i + 1)) = pSt (knownL b) (i + 1) ∧ oSt (knownL (a ++ b)) (a.length + (i + 1)) = oSt (knownL b) (i + 1) ∧ lSt (knownL (a ++ b)) (a.length + (i + 1)) = lSt (knownL b) (i + 1)
  | 0 => by
    obtain ⟨h1, h2⟩ := ctrl_plain hr
    have h3 := known_right a b 0
    have h4 : (knownL b).getD 0 Pr.none = knownPr r := by rw [hb]; rfl
    rw [Nat.add_zero, h4] at h3
    have e1 : (knownPr r).br = gcbI r := rfl
    have e2 : (knownPr r).pc = inTab tPict r := rfl
    have e3 : (knownPr r).cv = conjO r := rfl
    show cSt _ (a.length + 0 + 1) = cSt _ (0 + 1) ∧ pSt _ (a.length + 0 + 1) = pSt _ (0 + 1) ∧ oSt _ (a.length + 0 + 1) = oSt _ (0 + 1) ∧ lSt _ (a.length + 0 + 1) = lSt _ (0 + 1)
    rw [Nat.add_zero]
    simp only [cSt, pSt, oSt, lSt]
    rw [h3, h4, e1, e2, e3, h1, h2]
    refine ⟨by simp [conjI], ?_, ?_, rfl⟩
    · unfold picI
      simp only [Bool.false_eq_true, if_false]
      split <;> split <;> first | rfl | (split <;> first | rfl | omega) | omega
    · have : (gcbI r == 6) = false := by rw [beq_eq_false_iff_ne]; omega
      rw [this]; rfl
  | i + 1 => by
    obtain ⟨h1, h2, h3, _⟩ := sts_shift (a := a) hb hr i
    have h5 := known_right a b (i + 1)
    show cSt _ (a.length + (i + 1) + 1) = cSt _ (i + 1 + 1) ∧ pSt _ (a.length + (i + 1) + 1) = pSt _ (i + 1 + 1) ∧ oSt _ (a.length + (i + 1) + 1) = oSt _ (i + 1 + 1) ∧ lSt _ (a.length + (i + 1) + 1) = lSt _ (i + 1 + 1)
    have c1 : cSt (knownL (a ++ b)) (a.length + (i + 1) + 1) = conjI (cSt (knownL (a ++ b)) (a.length + (i + 1))) ((knownL (a ++ b)).getD (a.length + (i + 1)) Pr.none).cv := rfl
    have c2 : pSt (knownL (a ++ b)) (a.length + (i + 1) + 1) = picI (pSt (knownL (a ++ b)) (a.length + (i + 1))) ((knownL (a ++ b)).getD (a.length + (i + 1)) Pr.none).br ((knownL (a ++ b)).getD (a.length + (i + 1)) Pr.none).pc := rfl
    have c3 : oSt (knownL (a ++ b)) (a.length + (i + 1) + 1) = (((knownL (a ++ b)).getD (a.length + (i + 1)) Pr.none).br == 6 && !oSt (knownL (a ++ b)) (a.length + (i + 1))) := rfl
    have c4 : lSt (knownL (a ++ b)) (a.length + (i + 1) + 1) = ((knownL (a ++ b)).getD (a.length + (i + 1)) Pr.none).br := rfl
    rw [c1, c2, c3, c4, h5, h1, h2, h3]
    exact ⟨rfl, rfl, rfl, rfl⟩
theorem join_cut {a b : List Int} {r : Int} {t : List Int} (hb : b = r :: t) (hr : 1 ≤ gcbI r ∧ gcbI r ≤ 3) (hcr : ¬ (gcbI r = 2 ∧ 0 < a.length ∧ gcbI (a.getD (a.length - 1) 0) = 1)) : ∀ i, jR (knownL (a ++ b)) (a.length + i) = jR (knownL b) i
  | 0 => by
    rw [jR_zero]
    rcases Nat.eq_zero_or_pos a.length with h0 | h0
    · rw [h0]; exact jR_zero _
    obtain ⟨m, hm⟩ : ∃ m, a.length = m + 1 := ⟨a.length - 1, by omega⟩
    have h3 := known_right a b 0
    have h4 : (knownL b).getD 0 Pr.none = knownPr r := by rw [hb]; rfl
    rw [Nat.add_zero, h4] at h3
    obtain ⟨h1, h2⟩ := ctrl_plain hr
    have hl : lSt (knownL (a ++ b)) a.length = gcbI (a.getD (a.length - 1) 0) := by
      rw [hm]
      show ((knownL (a ++ b)).getD m Pr.none).br = _
      rw [known_left a b m (by omega), knownL_at (by omega), Nat.add_sub_cancel]
      rfl
    rw [Nat.add_zero, jR_st, h3, hl]
    have e1 : (knownPr r).br = gcbI r := rfl
    have e2 : (knownPr r).pc = inTab tPict r := rfl
    have e3 : (knownPr r).cv = conjO r := rfl
    rw [e1, e2, e3, h1, h2, decide_eq_true h0]
    unfold joinsB
    have hj : joinI (gcbI (a.getD (a.length - 1) 0)) (gcbI r) ≠ 1 := by
      unfold joinI
      have hcl : clI (gcbI r) = gcbI r := by unfold clI; rw [if_neg (by omega)]
      have hbr : brB (gcbI r) = true := by unfold brB; simp; omega
      rw [hcl]
      unfold pairI
      by_cases hc : clI (gcbI (a.getD (a.length - 1) 0)) = 1 ∧ gcbI r = 2
      · exfalso
        apply hcr
        refine ⟨hc.2, h0, ?_⟩
        have := hc.1
        unfold clI at this
        split at this <;> omega
      · rw [if_neg hc, if_pos (.inr hbr)]; decide
    have h6 : (gcbI r == 6) = false := by rw [beq_eq_false_iff_ne]; omega
    rw [if_neg (by decide), if_neg hj, if_neg (by omega), if_neg (by simp), h6]
    rfl
  | i + 1 => by
    obtain ⟨h1, h2, h3, h4⟩ := sts_shift (a := a) hb hr i
    rw [jR_st, jR_st, h1, h2, h3, h4, known_right]
    rw [decide_eq_true (show 0 < a.length + (i + 1) by omega), decide_eq_true (show 0 < i + 1 by omega)]
theorem cluA_cut {a b : List Int} {r : Int} {t : List Int} (hb : b = r :: t) (hr : 1 ≤ gcbI r ∧ gcbI r ≤ 3) (hcr : ¬ (gcbI r = 2 ∧ 0 < a.length ∧ gcbI (a.getD (a.length - 1) 0) = 1)) : cluA (a ++ b) = cluA a ++ cluA b := by
  have hj := join_cut (a := a) hb hr hcr
  have h0 : jR (knownL (a ++ b)) a.length = false := by have := hj 0; rw [Nat.add_zero, jR_zero] at this; exact this
  have hlb : b.length = t.length + 1 := by rw [hb]; rfl
  unfold cluA clS
  rw [List.length_append, hlb, spansB_cut _ _ _ h0, List.map_append, List.map_map]
  have e1 : spansB (jR (knownL (a ++ b))) a.length = spansB (jR (knownL a)) a.length := spansB_congr _ _ _ fun i hi => jR_congr i fun k hk => known_left a b k (by omega)
  have e2 : spansB (fun i => jR (knownL (a ++ b)) (a.length + i)) (t.length + 1) = spansB (jR (knownL b)) (t.length + 1) := spansB_congr _ _ _ fun i _ => hj i
  rw [e1, e2]
  congr 1
  · refine List.map_congr_left fun p hp => ?_
    have := spansB_ok _ _ _ hp
    unfold sliceL
    rw [List.drop_append_of_le_length (by omega), List.take_append_of_le_length (by rw [List.length_drop]; omega)]
  · refine List.map_congr_left fun p hp => ?_
    show sliceL (a ++ b) (a.length + p.1, a.length + p.2) = sliceL b p
    unfold sliceL
    simp only
    rw [List.drop_length_add_append]
    congr 1
    omega
end Go.Proofs.Ytgkcobmbdpgceaa
/- How wide a cluster is: measure.first, measure.width; the reference's First, Wide (21). -/
namespace Go.Proofs.Ytgkcobmbdpgceaa
open Go.RowKit Go.ChangeShapes Go.WideShapes
def wdC (T : List Int) : Int := if silB (T.getD 0 0) = true then 0 else rowW (T.take 16) (knownL (T.take 16)) (T.take 16).length
theorem rowW_bd (xs : List Int) (ps : List Pr) (n : Nat) : rowW xs ps n = 1 ∨ rowW xs ps n = 2 := by unfold rowW; split <;> simp
theorem wdC_bd (T : List Int) : (silB (T.getD 0 0) = true ∧ wdC T = 0) ∨ (silB (T.getD 0 0) = false ∧ 1 ≤ wdC T ∧ wdC T ≤ 2) := by
  unfold wdC
  cases h : silB (T.getD 0 0) with
  | true => exact .inl ⟨rfl, by simp⟩
  | false =>
    right
    refine ⟨rfl, ?_⟩
    rw [if_neg (by simp)]
    rcases rowW_bd (T.take 16) (knownL (T.take 16)) (T.take 16).length with h | h <;> omega
set_option maxRecDepth 100000 in
set_option maxHeartbeats 1600000 in
theorem mfirst_any (v : Value) (xs : List Int) (w : World) (hv : Held .i32 w v xs) (hl : xs.length ≤ 1000000000) : Calls Try.prog 50 #[v] w (Cloned 21 .i32 w (xs.take 16)) := by
  obtain ⟨ao, ca, rfl⟩ := hv.len
  have HO := Lib.hid (cluof_any _ xs w hv hl)
  have HL := Lib.hid (show (xs.take 16).length ≤ 16 by rw [List.length_take]; omega)
  clear hv
  go_enter Try.func50, Try.ntmps50
  go_wp2_with fail
  refine HO.out.mono ?_
  rintro e w1 ⟨rfl, b1⟩
  obtain ⟨T, hT⟩ : ∃ T, T = xs.take 16 := ⟨_, rfl⟩
  rw [← hT] at HL ⊢
  have HB := Lib.hid b1
  have HTE := Lib.hid hT
  clear b1 hT HO
  go_wp2_with (refine wpList_store_has rfl 90 (.tmp 3) (.tmp 5) rfl w1.heap.size rfl 90 (clCells []) (clCells T) 17 rfl (Has.new w1 (clCells []) _) info_cl rfl (clCells_len T HL.out) (cl_cells_one T) ?_; intro w5 h5 b5)
  have hb5 : Below w.heap.size w w5 := (HB.out.alloc HB.out.size _).trans (b5.below (by have := HB.out.size; simp; omega) HB.out.size)
  have HC := Lib.hid (ctext_any w1.heap.size T w5 h5 HL.out)
  have HB5 := Lib.hid hb5
  clear h5 b5 hb5
  go_wp2_with fail
  refine HC.out.mono ?_
  rintro e w6 ⟨v6, rfl, ho6, b6⟩
  have HR := Lib.hid (show Cloned 21 .i32 w (xs.take 16) (.returned v6) w6 from by rw [← HTE.out]; exact ⟨v6, rfl, owns_mono ho6 HB5.out.size, HB5.out.trans (b6.mono HB5.out.size)⟩)
  clear ho6 b6
  go_wp2
  go_ret
  exact HR.out
set_option maxRecDepth 100000 in
set_option maxHeartbeats 1600000 in
theorem mwidth_any (v : Value) (T : List Int) (w : World) (hv : Held .i32 w v T) (h0 : 0 < T.length) (hl : T.length ≤ 1000000) : Calls Try.prog 49 #[v] w (Gives w (.int .i64 (wdC T))) := by
  obtain ⟨ao, ca, rfl⟩ := hv.len
  obtain ⟨b, off, rfl, _, c0⟩ := hv.spots 0 h0
  rw [Nat.add_zero] at c0
  have HF := Lib.hid (fun w' (h : Below w.heap.size w w') => mfirst_any _ T w' (hv.below h) (by omega))
  have HS := Lib.hid (bsil_any (T.getD 0 0))
  have hbd := wdC_bd T
  have HW := Lib.hid (show silB (T.getD 0 0) = false → rowW (T.take 16) (knownL (T.take 16)) (T.take 16).length = wdC T from fun h => by unfold wdC; rw [if_neg (by rw [h]; decide)])
  have HT := Lib.hid (show (T.take 16).length ≤ 1000000 by rw [List.length_take]; omega)
  obtain ⟨x, hx⟩ : ∃ x, x = T.getD 0 0 := ⟨_, rfl⟩
  rw [← hx] at c0 HS hbd HW
  obtain ⟨n, hn⟩ : ∃ n, n = T.length := ⟨_, rfl⟩
  rw [← hn] at HF h0 hl ⊢
  obtain ⟨F, hF⟩ : ∃ F, F = T.take 16 := ⟨_, rfl⟩
  rw [← hF] at HF HW HT
  obtain ⟨W, hW⟩ : ∃ W, W = wdC T := ⟨_, rfl⟩
  rw [← hW] at hbd HW ⊢
  clear hv hx hn hF hW
  rcases hbd with ⟨hs, hw0⟩ | ⟨hs, hw1, hw2⟩
  · have HZ := Lib.hid hw0
    rw [hs] at HS
    clear hs hw0
    go_enter Try.func49, Try.ntmps49
    go_wp2_with fail
    refine (HS.out w).mono ?_
    rintro e w1 ⟨rfl, b1⟩
    have HB := Lib.hid b1
    clear b1
    go_wp2
    go_ret
    exact ⟨ret_eq (by rw [HZ.out]; try rfl), HB.out⟩
  · have HE := Lib.hid (HW.out hs)
    rw [hs] at HS
    clear hs hw1 hw2
    go_enter Try.func49, Try.ntmps49
    go_wp2_with fail
    refine (HS.out w).mono ?_
    rintro e w1 ⟨rfl, b1⟩
    have HB := Lib.hid b1
    clear b1 c0
    go_wp2_with fail
    refine (HF.out w1 HB.out).mono ?_
    rintro e w2 ⟨v2, rfl, ho2, b2⟩
    have hc := cof_any v2 F w2 (held_of_owns ho2) HT.out
    rw [HE.out] at hc
    have HB2 := Lib.hid (HB.out.trans (b2.mono HB.out.size))
    clear ho2 b2
    go_wp2_with fail
    refine hc.mono ?_
    rintro e w3 ⟨rfl, b3⟩
    have HB3 := Lib.hid (HB2.out.trans (b3.mono HB2.out.size))
    clear b3 hc
    go_wp2
    go_ret
    exact ⟨(ret_eq (by first | rfl | (simp <;> omega))), HB3.out⟩
end Go.Proofs.Ytgkcobmbdpgceaa
/- The reference's First, Wide (21). -/
namespace Go.Proofs.Ytgkcobmbdpgceaa
open Go.RowKit Go.ChangeShapes Go.WideShapes
set_option maxRecDepth 100000 in
set_option maxHeartbeats 1600000 in
theorem rfirst_any (Z : Zone) (v : Value) (xs : List Int) (w : World) (hv : HeldE (intE .i32) Z w v xs) (hZ : ∀ b, Z b → b < w.heap.size) (h0 : 0 < xs.length) (hl : xs.length ≤ 1000000) : Calls Try.prog 53 #[v] w (Cloned 21 .i32 w (xs.take 16)) := by
  obtain ⟨ao, ca, rfl, hcap, hmx, _⟩ := id hv
  obtain ⟨b, off, rfl, hb, _⟩ := hv.ints.spots 0 h0
  obtain ⟨K, hK⟩ : ∃ K, K = min xs.length 16 := ⟨_, rfl⟩
  have HP := Lib.hid (show HeldE (intE .i32) Z w (.slice (some ⟨b, off, none⟩) K ca) (xs.take K) from by
    have hp := hv.part 0 K (Nat.zero_le _) (by omega) (some ⟨b, off, none⟩) ca (fun h => by cases h) (fun b' o' h _ => by cases h; simp) (fun _ _ => by simp) (by omega) hmx
    simpa using hp)
  have HT := Lib.hid (show xs.take K = xs.take 16 from by
    rw [hK]
    by_cases h : xs.length ≤ 16
    · rw [Nat.min_eq_left h, List.take_of_length_le (Nat.le_refl _), List.take_of_length_le h]
    · rw [Nat.min_eq_right (by omega)])
  have HKL := Lib.hid (show (xs.take K).length = K from by rw [List.length_take]; omega)
  obtain ⟨n, hn⟩ : ∃ n, n = xs.length := ⟨_, rfl⟩
  rw [← hn] at hcap hK h0 hl ⊢
  have hmin : min (n : Int) 16 = (K : Int) := by omega
  have hKc : K ≤ ca := by omega
  have hKi : (K : Int) ≤ (ca : Int) := by omega
  have hK16 : K ≤ 16 := by omega
  have HZ := Lib.hid hZ
  obtain ⟨XK, hXK⟩ : ∃ XK, XK = xs.take K := ⟨_, rfl⟩
  rw [← hXK] at HP HT HKL
  have hb1 := (Below.refl w.heap.size w).alloc (Nat.le_refl _) (.cells #[] 21)
  have ho1 : OwnE (intE .i32) (fun _ => True) (w.alloc (.cells #[] 21)) w.heap.size 21 (.slice (some ⟨w.heap.size, 0, none⟩) 0 0) [] := OwnE.empty (World.ownsRow_lit w #[] 0 (Nat.le_refl _) (by decide) rfl)
  have HO1 := Lib.hid ho1
  have HU1 := Lib.hid (show HeldE (intE .i32) (fun b9 => True ∧ (Value.slice (some ⟨w.heap.size, 0, none⟩) 0 0).ownBlock ≠ some b9) (w.alloc (.cells #[] 21)) _ XK from (HP.out.below hb1).zone (fun b9 _ h => ⟨trivial, fun e => by have h9 := (HO1.out.lt _ e).1; have := HZ.out b9 h; omega⟩))
  have HB1 := Lib.hid hb1
  clear hv hn hK hXK hZ hb1 ho1 hmx hb
  go_enter Try.func53, Try.ntmps53
  go_wp2_with (at_builtin; refine wpList_append_e (E := intE .i32) (Z := fun _ => True) rfl (.tmp 3) (.tmp 8) 22 rfl (.int .i32 0) 4 Try.underlying22 info_ru rfl (by decide) rfl rfl HO1.out HU1.out (by rw [HKL.out]; simp only [List.length_nil]; omega) (by rw [HKL.out]; simp only [List.length_nil]; omega) HB1.out.size ?_)
  intro v2 w2 ho2 b2 _ _
  try rw [List.nil_append] at ho2
  have HR := Lib.hid (show Cloned 21 .i32 w (xs.take 16) (.returned v2) w2 from by rw [← HT.out]; exact ⟨v2, rfl, ho2.ints, HB1.out.trans b2⟩)
  clear ho2 b2
  go_wp2
  go_ret
  exact HR.out
set_option maxRecDepth 100000 in
set_option maxHeartbeats 1600000 in
theorem rwide_any (Z : Zone) (v : Value) (T : List Int) (w : World) (hv : HeldE (intE .i32) Z w v T) (hZ : ∀ b, Z b → b < w.heap.size) (h0 : 0 < T.length) (hl : T.length ≤ 1000000) (hr : bounds32 T) : Calls Try.prog 52 #[v] w (Gives w (.int .i64 (wdC T))) := by
  obtain ⟨ao, ca, rfl⟩ := hv.len
  obtain ⟨b, off, rfl, _, c0⟩ := hv.ints.spots 0 h0
  rw [Nat.add_zero] at c0
  have HF := Lib.hid (fun w' (h : Below w.heap.size w w') => rfirst_any Z _ T w' (hv.below h) (fun b hb => Nat.lt_of_lt_of_le (hZ b hb) h.size) h0 hl)
  have HS := Lib.hid (rbsil_any (T.getD 0 0))
  have hbd := wdC_bd T
  have HW := Lib.hid (show silB (T.getD 0 0) = false → rowW (T.take 16) (knownL (T.take 16)) (T.take 16).length = wdC T from fun h => by unfold wdC; rw [if_neg (by rw [h]; decide)])
  have HT := Lib.hid (show (T.take 16).length ≤ 1000000 by rw [List.length_take]; omega)
  have HR := Lib.hid (show bounds32 (T.take 16) from fun i hi => by
    rw [List.length_take] at hi
    have := hr i (by omega)
    rw [show (T.take 16).getD i 0 = T.getD i 0 from by simp [List.getD, List.getElem?_take, show i < 16 by omega]]
    exact this)
  obtain ⟨x, hx⟩ : ∃ x, x = T.getD 0 0 := ⟨_, rfl⟩
  rw [← hx] at c0 HS hbd HW
  obtain ⟨n, hn⟩ : ∃ n, n = T.length := ⟨_, rfl⟩
  rw [← hn] at HF h0 hl ⊢
  obtain ⟨F, hF⟩ : ∃ F, F = T.take 16 := ⟨_, rfl⟩
  rw [← hF] at HF HW HT HR
  obtain ⟨W, hW⟩ : ∃ W, W = wdC T := ⟨_, rfl⟩
  rw [← hW] at hbd HW ⊢
  clear hv hx hn hF hW hZ hr
  rcases hbd with ⟨hs, hw0⟩ | ⟨hs, hw1, hw2⟩
  · have HZ := Lib.hid hw0
    rw [hs] at HS
    clear hs hw0
    go_enter Try.func52, Try.ntmps52
    go_wp2_with fail
    refine (HS.out w).mono ?_
    rintro e w1 ⟨rfl, b1⟩
    have HB := Lib.hid b1
    clear b1
    go_wp2
    go_ret
    exact ⟨ret_eq (by rw [HZ.out]; try rfl), HB.out⟩
  · have HE := Lib.hid (HW.out hs)
    rw [hs] at HS
    clear hs hw1 hw2
    go_enter Try.func52, Try.ntmps52
    go_wp2_with fail
    refine (HS.out w).mono ?_
    rintro e w1 ⟨rfl, b1⟩
    have HB := Lib.hid b1
    clear b1 c0
    go_wp2_with fail
    refine (HF.out w1 HB.out).mono ?_
    rintro e w2 ⟨v2, rfl, ho2, b2⟩
    have hc := rof19_any v2 F w2 (held_of_owns ho2) HT.out HR.out
    rw [HE.out] at hc
    have HB2 := Lib.hid (HB.out.trans (b2.mono HB.out.size))
    clear ho2 b2
    go_wp2_with fail
    refine hc.mono ?_
    rintro e w3 ⟨rfl, b3⟩
    have HB3 := Lib.hid (HB2.out.trans (b3.mono HB2.out.size))
    clear b3 hc
    go_wp2
    go_ret
    exact ⟨(ret_eq (by first | rfl | (simp <;> omega))), HB3.out⟩
end Go.Proofs.Ytgkcobmbdpgceaa
/- measure.Columns (21). -/
namespace Go.Proofs.Ytgkcobmbdpgceaa
open Go.RowKit Go.ChangeShapes Go.WideShapes
attribute [local go_sem] Oper.semAt_some
def sumW (L : List (List Int)) : Int := (L.map wdC).sum
theorem sumW_snoc (L : List (List Int)) (T : List Int) : sumW (L ++ [T]) = sumW L + wdC T := by unfold sumW; simp
theorem sumW_bd : ∀ L : List (List Int), 0 ≤ sumW L ∧ sumW L ≤ 2 * (L.length : Int)
  | [] => by simp [sumW]
  | T :: L => by
    have h1 := sumW_bd L
    have h2 := wdC_bd T
    unfold sumW at h1 ⊢
    simp only [List.map_cons, List.sum_cons, List.length_cons]
    omega
def colsC (xs : List Int) : Int := sumW (cluA xs)
theorem colsC_bd (xs : List Int) : 0 ≤ colsC xs ∧ colsC xs ≤ 2 * (xs.length : Int) := by
  have h1 := sumW_bd (cluA xs)
  have h2 := cluA_len xs
  have h3 := startB_len (jR (knownL xs)) xs.length
  unfold colsC
  omega
/-- What is known of a cluster that comes. -/
theorem cu_pos {xs : List Int} {lo hi : Nat} {x : Cu} {W : World} (h : XCu xs lo hi x W) : 0 < (sliceL xs x.p).length ∧ (sliceL xs x.p).length ≤ xs.length := by
  obtain ⟨g, hv, h1, h2, h3, h4, h5, h6⟩ := h
  rw [sliceL_len xs x.p (Nat.le_of_lt h4) h5]
  omega
theorem pre_len {xs : List Int} {pre : List Cu} {x : Cu} (h : (pre ++ [x]).map Cu.p <+: clS xs) : pre.length + 1 ≤ xs.length := by
  have h9 := h.length_le
  rw [List.length_map, List.length_append, List.length_singleton] at h9
  have := clS_len xs
  omega
def ColI (w : World) (bx lo : Nat) (xs : List Int) (hi : Nat) (pre : List Cu) (W : World) : Prop := lo ≤ hi ∧ Has W bx [.int .i64 (sumW (cluL xs pre))] 3 ∧ Below w.heap.size w W ∧ hi ≤ W.heap.size ∧ pre.length ≤ 1000000
set_option maxRecDepth 100000 in
set_option maxHeartbeats 3000000 in
theorem mcols_any (v : Value) (xs : List Int) (w : World) (hx : Held .i32 w v xs) (hn : xs.length ≤ 1000000) : Calls Try.prog 16 #[v] w (Gives w (.int .i64 (colsC xs))) := by
  obtain ⟨ao, ca, rfl⟩ := hx.len
  refine (callsIn_wide (n := 9)).1 ?_
  have b1 : Below w.heap.size w (w.alloc (.cells #[.int .i64 0] 3)) := (Below.refl _ _).alloc (Nat.le_refl _) _
  have HC := Lib.hid (gall_any _ xs _ (hx.below b1) hn)
  have HBX := Lib.hid (Has.new w [.int .i64 0] 3)
  have HB1 := Lib.hid b1
  clear hx b1
  refine callsIn_of_wp_marks Try.func16 rfl trivial ?_ rfl
  simp only [Try.ntmps16, List.size_toArray, List.length_cons, List.length_nil, Nat.reduceAdd, Nat.reduceSub, Array.replicate_succ, Array.replicate_zero, List.push_toArray, List.append_toArray, List.nil_append, List.cons_append]
  gi_wp2_with fail
  first | refine ⟨trivial, (fun h => absurd h (by decide)), (callsIn_wide.2 (HC.out)).mono ?_⟩ | refine ⟨trivial, (callsIn_wide.2 (HC.out)).mono ?_⟩
  rintro e w1 ⟨B, vk, rfl, hB, hk, b1, hBl⟩
  have hbx := HBX.out.below b1 HBX.out.lt
  have HX := Lib.hid hbx
  have HW := Lib.hid (HB1.out.trans (b1.mono HB1.out.size))
  have HLT := Lib.hid (show w.heap.size < w1.heap.size from hbx.lt)
  have h1 : 1 ≤ 9 := by decide
  gi_wp2_with fail
  refine wpIn_rangeO rfl h1 (gf := 64) (lb := #[.pointer (some ⟨B, 0, none⟩)]) rfl trivial (enters_of Try.func64 (by kernel_rfl) rfl) (gall1_in B vk xs w1 hB hk hn _ (fun b => b = w.heap.size)) (Below.refl _ _) (fun _ => rfl) (fun b e => by subst e; exact HLT.out)
    (ColI w w.heap.size (w1.heap.size + 2) xs) (fun _ _ _ _ => False) ?hI (fun _ _ _ _ _ h _ => h) ?h0 (fun x => { tmps := #[.slice ao xs.length ca, undef, .int .i64 0, .pointer (some ⟨w.heap.size, 0, none⟩), undef, x.v, .slice ao xs.length ca, .func (.func 64) #[] #[.pointer (some ⟨B, 0, none⟩)], .int .i64 (x.p.1 : Int), x.v, undef, undef, undef, undef, undef], defers := [] }) ?assign ?body ?done ?stop
  case hI =>
    rintro hi pre A A' ⟨hlo, h1, h3, h4, h5⟩ hu
    exact ⟨hlo, hu.keep.has h1 (fun e => by have := HLT.out; omega), h3.upd hu h3.size (fun b e => by have := HLT.out; omega), Nat.le_trans h4 hu.size, h5⟩
  case h0 =>
    intro hi W1 hb h1 h2
    exact ⟨h1, HX.out.below hb HX.out.lt, HW.out.trans (hb.mono HW.out.size), h2, Nat.zero_le _⟩
  case assign =>
    intro l x W K hK
    unfold encCu
    gi_wp2
    exact hK
  case stop =>
    intro hi c pre W _ h _
    exact h.elim
  case done =>
    rintro hi ys W hS ⟨hlo, h1, h3, h4, h5⟩ hK
    rw [cluL_all hS, show sumW (cluA xs) = colsC xs from rfl] at h1
    have c1 := h1.cell 0 _ rfl
    have HE := Lib.hid (h3.upd (upd_putObj (S := fun b => b = w1.heap.size) W w1.heap.size (.deferred none) rfl) h3.size (fun b e => by have := HLT.out; omega))
    clear h1 h3
    gi_wp2
    refine ⟨by simp, .inl ⟨_, _, rfl, run_takeDeferred hK, ?_⟩⟩
    exact ⟨.int .i64 (colsC xs), by simp [results, Try.results16, go_sem], rfl, HE.out⟩
  case body =>
    rintro l hi pre x W hlo hhi ⟨_, h1, h3, h4, h5⟩ ⟨Wx, hx, hux⟩ hR
    have hx := hx.upd hux (fun b h1 h2 => by omega)
    have HXV := Lib.hid hx.held
    have HXP := Lib.hid (cu_pos hx)
    have hpl := pre_len hR
    have HPL := Lib.hid (show pre.length + 1 ≤ 1000000 by omega)
    have HDD := Lib.hid (show w.heap.size < hi from by have := HLT.out; omega)
    have HHI := Lib.hid (And.intro hlo hhi)
    have HL := Lib.hid h3
    have HH := Lib.hid h1
    have hsn : sumW (cluL xs (pre ++ [x])) = sumW (cluL xs pre) + wdC (sliceL xs x.p) := by rw [show cluL xs (pre ++ [x]) = cluL xs pre ++ [sliceL xs x.p] from by simp [cluL], sumW_snoc]
    have HSN := Lib.hid hsn
    have hsb := sumW_bd (cluL xs pre)
    have hcl : (cluL xs pre).length = pre.length := by simp [cluL]
    have hwb := wdC_bd (sliceL xs x.p)
    obtain ⟨T, hT⟩ : ∃ T, T = sliceL xs x.p := ⟨_, rfl⟩
    rw [← hT] at HXV HXP HSN hwb
    obtain ⟨xv, hxv⟩ : ∃ xv, xv = x.v := ⟨_, rfl⟩
    rw [← hxv] at HXV ⊢
    obtain ⟨s, hs⟩ : ∃ s, s = sumW (cluL xs pre) := ⟨_, rfl⟩
    rw [← hs] at HSN hsb HH
    obtain ⟨wd, hwd⟩ : ∃ wd, wd = wdC T := ⟨_, rfl⟩
    have HWD := Lib.hid (show ∀ w', Below W.heap.size W w' → Calls Try.prog 49 #[xv] w' (Gives w' (.int .i64 wd)) from fun w' h => by rw [hwd]; exact mwidth_any xv T w' (HXV.out.below h) HXP.out.1 (by have := HXP.out; omega))
    rw [← hwd] at HSN hwb
    have hsw : IntKind.i64.wrap (s + wd) = s + wd := by rw [IntKind.wrap_i64]; omega
    clear hx hux hR hpl h1 h3 h4 hsn hcl hT hxv hs hwd h5
    gi_wp2
    obtain ⟨Erg, hErg⟩ : ∃ EE : Nat → Value → World → Prop, EE = fun jj xx ww => match jj with
        | 0 => xx = .int .i64 s
        | 1 => xx = xv
        | 2 => xx = .int .i64 wd
        | 3 => xx = .int .i64 (s + wd)
        | 4 => xx = undef
        | _ => True := ⟨_, rfl⟩
    have erg0 : ∀ xx ww, Erg 0 xx ww = (xx = .int .i64 s) := fun xx ww => congrFun (congrFun (congrFun hErg 0) xx) ww
    have erg1 : ∀ xx ww, Erg 1 xx ww = (xx = xv) := fun xx ww => congrFun (congrFun (congrFun hErg 1) xx) ww
    have erg2 : ∀ xx ww, Erg 2 xx ww = (xx = .int .i64 wd) := fun xx ww => congrFun (congrFun (congrFun hErg 2) xx) ww
    have erg3 : ∀ xx ww, Erg 3 xx ww = (xx = .int .i64 (s + wd)) := fun xx ww => congrFun (congrFun (congrFun hErg 3) xx) ww
    have erg4 : ∀ xx ww, Erg 4 xx ww = (xx = undef) := fun xx ww => congrFun (congrFun (congrFun hErg 4) xx) ww
    obtain ⟨Crg, hCrg⟩ : ∃ CC : Array Bool → World → Prop, CC = fun L8 w' => (Mix.one L8 4 = 0 → Below W.heap.size W w') ∧ (Mix.one L8 4 = 1 → Has w' w.heap.size [.int .i64 (s + wd)] 3 ∧ Upd (fun b => b = w.heap.size) W w') := ⟨_, rfl⟩
    have krg : ∀ i L w, i ≠ 4 →  Crg L w → Crg (L.setIfInBounds i true) w := by
      intro i L w q4 h
      rw [hCrg] at h ⊢
      simp only [Mix.one_ne q4]; exact h
    obtain ⟨Xrg, hXrg⟩ : ∃ XX : World → World → Prop, XX = fun x y => Upd (fun b => b = w.heap.size) x y := ⟨_, rfl⟩
    have xrg : ∀ w, Xrg w w := fun w => by rw [hXrg]; exact Upd.refl _ _
    have strg : ∀ j x w w1, Xrg w w1 → Erg j x w → Erg j x w1 := by
      intro j x w w1 hx h
      rw [hXrg] at hx
      match j with
      | 0 => rw [erg0] at h ⊢; exact h
      | 1 => rw [erg1] at h ⊢; exact h
      | 2 => rw [erg2] at h ⊢; exact h
      | 3 => rw [erg3] at h ⊢; exact h
      | 4 => rw [erg4] at h ⊢; exact h
      | j + 5 => rw [hErg]; trivial
    have crg : Crg (Array.replicate 5 false) W.drew := by rw [hCrg]; exact ⟨fun _ => (Below.refl _ _).drew, fun e => absurd e (by decide)⟩
    have brg : ∀ L w w1, Crg L w → Below w.heap.size w w1 → Crg L w1 := by
      intro L w w1 h hb
      rw [hCrg] at h ⊢
      (obtain ⟨q1, q2⟩ := h; exact ⟨fun e => (q1 e).trans (hb.mono (q1 e).size), fun e => ⟨(q2 e).1.below hb (q2 e).1.lt, (q2 e).2.trans (.ofBelow hb)⟩⟩)
    have xbrg : ∀ w w1, Below w.heap.size w w1 → Xrg w w1 := by
      intro w w1 hb
      rw [hXrg]
      exact Upd.ofBelow hb
    have Hrgb := Lib.hid brg
    have Hrgxb := Lib.hid xbrg
    clear brg xbrg
    clear hErg
    have Hrgk := Lib.hid krg
    have Hrgx := Lib.hid xrg
    have Hrgst := Lib.hid strg
    have Hrgc := Lib.hid crg
    have HrghC := Lib.hid hCrg
    have HrghX := Lib.hid hXrg
    have Hrge0 := Lib.hid erg0
    have Hrge1 := Lib.hid erg1
    have Hrge2 := Lib.hid erg2
    have Hrge3 := Lib.hid erg3
    have Hrge4 := Lib.hid erg4
    clear krg xrg strg crg hCrg hXrg erg0 erg1 erg2 erg3 erg4
    gi_wp2_with fail
    refine Reg.regionFIn (fun _ => trivial) rfl Reg.calls_round (by kernel_rfl) Erg Crg Xrg Hrgst.out (by kernel_rfl) (by kernel_rfl) (by kernel_rfl) Hrgc.out (fun Frg hFrg => ?_)
    simp only [Reg.frame, Reg.dsts, List.map_cons, List.map_nil, Mix.put_lit, Reg.put_none, List.set_cons_succ, List.set_cons_zero, Nat.zero_add, Nat.reduceAdd] at hFrg
    refine ⟨?_, ?_⟩
    · refine ⟨?_, ?_, ?_, ?_, ?_, trivial⟩
      · intro Lq wq xq hh
        simp only [hFrg]
        refine .inl ⟨rfl, ?_⟩
        unfold Reg.upon
        have hc : Crg Lq wq := hh.cls
        rw [HrghC.out] at hc
        have q0 := ((hc.1 (Mix.one_un (hh.notYet 4 (by kernel_rfl)))).cell (p := ⟨w.heap.size, 0, none⟩) HH.out.lt).trans (HH.out.cell 0 _ rfl)
        clear hc
        have hk := Hrgk.out 0 Lq wq (by decide)  hh.cls
        have hx := Hrgx.out wq
        have he : Erg 0 (.int .i64 s) wq := by rw [Hrge0.out]
        have HK := Lib.hid (And.intro hk (And.intro he hx))
        clear hk hx he
        go_simp
        exact HK.out
      · intro Lq wq xq hh
        simp only [hFrg]
        refine .inl ⟨rfl, ?_⟩
        unfold Reg.upon
        have hk := Hrgk.out 1 Lq wq (by decide)  hh.cls
        have hx := Hrgx.out wq
        have he : Erg 1 (xv) wq := by rw [Hrge1.out]
        have HK := Lib.hid (And.intro hk (And.intro he hx))
        clear hk hx he
        go_simp
        exact HK.out
      · intro Lq wq xq hh
        have d1 : Erg 1 (xq 1) wq := hh.val 1 (by kernel_rfl) (by kernel_rfl)
        rw [Hrge1.out] at d1
        simp only [hFrg, d1]
        clear d1
        refine .inl ⟨rfl, ?_⟩
        unfold Reg.upon
        have hc : Crg Lq wq := hh.cls
        rw [HrghC.out] at hc
        go_simp
        refine (HWD.out wq (hc.1 (Mix.one_un (hh.notYet 4 (by kernel_rfl))))).mono ?_
        rintro e w2 ⟨rfl, hb⟩
        exact ⟨_, rfl, Hrgk.out 2 Lq w2 (by decide) (Hrgb.out Lq wq w2 hh.cls hb), (by rw [Hrge2.out]), Hrgxb.out wq w2 hb⟩
      · intro Lq wq xq hh
        have d0 : Erg 0 (xq 0) wq := hh.val 0 (by kernel_rfl) (by kernel_rfl)
        rw [Hrge0.out] at d0
        have d2 : Erg 2 (xq 2) wq := hh.val 2 (by kernel_rfl) (by kernel_rfl)
        rw [Hrge2.out] at d2
        simp only [hFrg, d0, d2]
        clear d0 d2
        refine .inl ⟨rfl, ?_⟩
        unfold Reg.upon
        have hk := Hrgk.out 3 Lq wq (by decide)  hh.cls
        have hx := Hrgx.out wq
        have he : Erg 3 (.int .i64 (s + wd)) wq := by rw [Hrge3.out]
        have HK := Lib.hid (And.intro hk (And.intro he hx))
        clear hk hx he
        go_simp
        exact HK.out
      · intro Lq wq xq hh
        have d3 : Erg 3 (xq 3) wq := hh.val 3 (by kernel_rfl) (by kernel_rfl)
        rw [Hrge3.out] at d3
        simp only [hFrg, d3]
        clear d3
        refine .inl ⟨rfl, ?_⟩
        unfold Reg.upon
        have hc : Crg Lq wq := hh.cls
        rw [HrghC.out] at hc
        have hbq := hc.1 hh.un
        have h4 := HH.out.below hbq HH.out.lt
        have c9 := h4.cell 0 _ rfl
        have f9 := h4.free 0
        have h5 := h4.set 0 (.int .i64 (s + wd))
        have u5 := (Upd.refl (fun b => b = w.heap.size) wq).setCell (p := ⟨w.heap.size, 0, none⟩) (.inl rfl) (.int .i64 (s + wd))
        have hF : Crg (Lq.setIfInBounds 4 true) (World.setCell wq ⟨w.heap.size, 0, none⟩ (.int .i64 (s + wd))) ∧ Erg 4 undef (World.setCell wq ⟨w.heap.size, 0, none⟩ (.int .i64 (s + wd))) ∧ Xrg wq (World.setCell wq ⟨w.heap.size, 0, none⟩ (.int .i64 (s + wd))) := by
          refine ⟨?_, by rw [Hrge4.out], by rw [HrghX.out]; exact u5⟩
          rw [HrghC.out]
          exact ⟨fun e9 => (by rw [Mix.one_set (by rw [hh.size]; decide)] at e9; exact absurd e9 (by decide)), fun _ => ⟨h5, (Upd.ofBelow hbq).trans u5⟩⟩
        clear hc h5 u5 h4 hbq
        go_simp
        try exact hF
    intro xq wrg hcrg hvrg
    rw [HrghC.out] at hcrg
    simp only [hFrg]
    clear hvrg hFrg Hrgk Hrgx Hrgst Hrgc HrghC HrghX Hrgb Hrgxb Hrge0 Hrge1 Hrge2 Hrge3 Hrge4
    obtain ⟨q1, q2⟩ := hcrg.2 (by kernel_rfl)
    have HF1 := Lib.hid (q2.mono (fun b _ e => (.inl e : b = w.heap.size ∨ hi ≤ b)))
    have HF2 := Lib.hid (show ColI w w.heap.size (w1.heap.size + 2) xs hi (pre ++ [x]) wrg from ⟨HHI.out.1, by rw [HSN.out]; exact q1, HL.out.upd q2 HL.out.size (fun b e => by omega), Nat.le_trans HHI.out.2 q2.size, by rw [List.length_append, List.length_singleton]; exact HPL.out⟩)
    clear hcrg q1 q2
    gi_wp2
    exact ⟨HF1.out, HF2.out⟩
end Go.Proofs.Ytgkcobmbdpgceaa
/- Lines of a text: what is told of each piece, and the lines: numbers alone (22). -/
namespace Go.Proofs.Ytgkcobmbdpgceaa
open Go.RowKit Go.ChangeShapes Go.WideShapes
/-- What is told of a piece; how much of the line is used. -/
def tst (w : Int) (s : List (List Int × Bool) × Int) (T : List Int) : List (List Int × Bool) × Int :=
  if silB (T.getD 0 0) = true then s else (s.1 ++ [(T, decide (w - s.2 < min (wdC T) w))], (if w - s.2 < min (wdC T) w then 0 else s.2) + min (wdC T) w)
def tolds (w : Int) (L : List (List Int)) : List (List Int × Bool) × Int := L.foldl (tst w) ([], 0)
theorem tolds_nil (w : Int) : tolds w [] = ([], 0) := rfl
theorem tolds_snoc (w : Int) (L : List (List Int)) (T : List Int) : tolds w (L ++ [T]) = tst w (tolds w L) T := by
  unfold tolds
  rw [List.foldl_append]
  rfl
theorem tolds_from (w : Int) (hw : 1 ≤ w) : ∀ (L : List (List Int)) (s : List (List Int × Bool) × Int), 0 ≤ s.2 → s.2 ≤ w → 0 ≤ (L.foldl (tst w) s).2 ∧ (L.foldl (tst w) s).2 ≤ w ∧ (L.foldl (tst w) s).1.length ≤ s.1.length + L.length
  | [], s, h1, h2 => ⟨h1, h2, Nat.le_refl _⟩
  | T :: L, s, h1, h2 => by
    have hb := wdC_bd T
    have key : 0 ≤ (tst w s T).2 ∧ (tst w s T).2 ≤ w ∧ (tst w s T).1.length ≤ s.1.length + 1 := by
      unfold tst
      by_cases hs : silB (T.getD 0 0) = true
      · rw [if_pos hs]; exact ⟨h1, h2, by omega⟩
      · rw [if_neg hs]
        refine ⟨?_, ?_, by simp⟩
        · by_cases hg : w - s.2 < min (wdC T) w
          · rw [if_pos hg]; omega
          · rw [if_neg hg]; omega
        · by_cases hg : w - s.2 < min (wdC T) w
          · rw [if_pos hg]; omega
          · rw [if_neg hg]; omega
    have ih := tolds_from w hw L (tst w s T) key.1 key.2.1
    rw [List.foldl_cons, List.length_cons]
    exact ⟨ih.1, ih.2.1, by omega⟩
theorem tolds_bd (w : Int) (hw : 1 ≤ w) (L : List (List Int)) : 0 ≤ (tolds w L).2 ∧ (tolds w L).2 ≤ w ∧ (tolds w L).1.length ≤ L.length := by
  have := tolds_from w hw L ([], 0) (Int.le_refl _) (by omega)
  simpa [tolds] using this
/-- The lines ahead of the last one, and the last one. -/
def rst (s : List (List Int) × List Int) (x : List Int × Bool) : List (List Int) × List Int := if x.2 = true then (s.1 ++ [s.2], x.1) else (s.1, s.2 ++ x.1)
def rowsT (t : List (List Int × Bool)) : List (List Int) × List Int := t.foldl rst ([], [])
theorem rowsT_snoc (t : List (List Int × Bool)) (x : List Int × Bool) : rowsT (t ++ [x]) = rst (rowsT t) x := by
  unfold rowsT
  rw [List.foldl_append]
  rfl
theorem rowsT_len (t : List (List Int × Bool)) : ∀ s : List (List Int) × List Int, (t.foldl rst s).1.length ≤ s.1.length + t.length := by
  induction t with
  | nil => intro s; simp
  | cons x t ih =>
    intro s
    have h1 := ih (rst s x)
    have h2 : (rst s x).1.length ≤ s.1.length + 1 := by
      unfold rst
      split <;> simp
    rw [List.foldl_cons, List.length_cons]
    omega
theorem rowsT_bd (t : List (List Int × Bool)) : (rowsT t).1.length ≤ t.length := by
  have := rowsT_len t ([], [])
  simpa [rowsT] using this
def clampW (w : Int) : Int := min (max w 1) 1024
theorem clampW_bd (w : Int) : 1 ≤ clampW w ∧ clampW w ≤ 1024 := by unfold clampW; omega
def linesOf (t : List (List Int × Bool)) : List (List Int) := (rowsT t).1 ++ [(rowsT t).2]
def linesC (w : Int) (xs : List Int) : List (List Int) := linesOf (tolds (clampW w) (cluA xs)).1
/-- How many lines are begun. -/
def nextN (t : List (List Int × Bool)) : Nat := (t.filter fun x => x.2).length
theorem nextN_snoc (t : List (List Int × Bool)) (x : List Int × Bool) : nextN (t ++ [x]) = nextN t + if x.2 = true then 1 else 0 := by
  unfold nextN
  rw [List.filter_append, List.length_append]
  cases h : x.2 <;> simp [List.filter, h]
theorem nextN_le (t : List (List Int × Bool)) : nextN t ≤ t.length := List.length_filter_le _ _
theorem nextN_rows (t : List (List Int × Bool)) : ∀ s : List (List Int) × List Int, (t.foldl rst s).1.length = s.1.length + nextN t := by
  induction t with
  | nil => intro s; simp [nextN]
  | cons x t ih =>
    intro s
    rw [List.foldl_cons, ih]
    unfold rst nextN
    cases h : x.2 <;> simp [List.filter, h]
    omega
theorem lines_len (t : List (List Int × Bool)) : (linesOf t).length = nextN t + 1 := by
  unfold linesOf rowsT
  rw [List.length_append, nextN_rows]
  simp
end Go.Proofs.Ytgkcobmbdpgceaa
/- tabs: stops, Set, Next, Prev (57). -/
namespace Go.Proofs.Ytgkcobmbdpgceaa
open Go.RowKit Go.ChangeShapes Go.WideShapes
/-- The cells of stops. -/
def stC (F : Nat → Bool) : List Value := (List.range 1024).map fun i => .bool (F i)
theorem stC_at (F : Nat → Bool) (i : Nat) (h : i < 1024) : (stC F)[i]? = some (.bool (F i)) := by simp [stC, h]
theorem stC_set (F : Nat → Bool) (k : Nat) (b : Bool) (h : k < 1024) : (stC F).set k (.bool b) = stC fun i => if i = k then b else F i := by
  apply List.ext_getElem?
  intro i
  by_cases hi : i < 1024
  · by_cases e : i = k
    · subst e
      rw [List.getElem?_set_self (by simp [stC]; exact hi), stC_at _ _ hi, if_pos rfl]
    · rw [List.getElem?_set_ne (Ne.symm e), stC_at _ _ hi, stC_at _ _ hi, if_neg e]
  · rw [List.getElem?_eq_none (by simp [stC]; omega), List.getElem?_eq_none (by simp [stC]; omega)]
def StAt (w : World) (g : Nat) (F : Nat → Bool) : Prop := Has w g (stC F) 73
theorem zero_st : Try.zeroCells73 = (stC fun _ => false).toArray := by kernel_rfl
theorem StAt.cell {w : World} {g : Nat} {F : Nat → Bool} (h : StAt w g F) {i : Nat} (hi : i < 1024) : w.cell? ⟨g, i, none⟩ = some (.bool (F i)) := Has.cell h i _ (stC_at F i hi)
/-- A stop that is set, or taken away. -/
def setF (F : Nat → Bool) (col : Int) (on : Bool) (i : Nat) : Bool := if (i : Int) = col ∧ 1 ≤ col ∧ col ≤ 1023 then on else F i
theorem setF_out {F : Nat → Bool} {col : Int} (on : Bool) (h : ¬ (1 ≤ col ∧ col ≤ 1023)) : setF F col on = F := by
  funext i
  unfold setF
  rw [if_neg (fun e => h e.2)]
theorem setF_in (F : Nat → Bool) (k : Nat) (on : Bool) (h1 : 1 ≤ k) (h2 : k ≤ 1023) : setF F (k : Int) on = fun i => if i = k then on else F i := by
  funext i
  unfold setF
  by_cases e : i = k
  · rw [if_pos ⟨by omega, by omega, by omega⟩, if_pos e]
  · rw [if_neg (fun h => e (by omega)), if_neg e]
set_option maxRecDepth 100000 in
set_option maxHeartbeats 1600000 in
theorem tset_any (g : Nat) (F : Nat → Bool) (col : Int) (on : Bool) (w : World) (h : StAt w g F) : Calls Try.prog 30 #[.pointer (some ⟨g, 0, none⟩), .int .i64 col, .bool on] w (fun e w' => e = .returned (.tuple #[]) ∧ StAt w' g (setF F col on) ∧ Upd (fun b => b = g) w w') := by
  by_cases h1 : 1 ≤ col
  · by_cases h2 : col ≤ 1023
    · obtain ⟨k, rfl⟩ : ∃ k : Nat, col = (k : Int) := ⟨col.toNat, by omega⟩
      have hg1 : decide ((1 : Int) ≤ (k : Int)) = true := by rw [decide_eq_true_eq]; exact h1
      have hg2 : decide ((k : Int) ≤ 1023) = true := by rw [decide_eq_true_eq]; exact h2
      have hlt : k < 1024 := by omega
      have hlti : (k : Int) < 1024 := by omega
      have hc := h.cell hlt
      have hf := Has.free h k
      have hs := Has.set h k (.bool on)
      rw [stC_set F k on hlt, ← setF_in F k on (by omega) (by omega)] at hs
      have HR := Lib.hid (And.intro hs ((Upd.refl (fun b => b = g) w).setCell (p := ⟨g, k, none⟩) (.inl rfl) (.bool on)))
      clear h hs h1 h2
      go_enter Try.func30, Try.ntmps30
      go_wp2
      exact bodyPost_end (by kernel_rfl) rfl ⟨rfl, HR.out.1, HR.out.2⟩
    · have hg1 : decide ((1 : Int) ≤ col) = true := by rw [decide_eq_true_eq]; exact h1
      have hg2 : decide (col ≤ 1023) = false := by rw [decide_eq_false_iff_not]; exact h2
      rw [setF_out on (by omega)]
      have H := Lib.hid h
      clear h h1 h2
      go_enter Try.func30, Try.ntmps30
      go_wp2
      exact bodyPost_end (by kernel_rfl) rfl ⟨rfl, H.out, Upd.refl _ _⟩
  · have hg1 : decide ((1 : Int) ≤ col) = false := by rw [decide_eq_false_iff_not]; exact h1
    rw [setF_out on (by omega)]
    have H := Lib.hid h
    clear h h1
    go_enter Try.func30, Try.ntmps30
    go_wp2
    exact bodyPost_end (by kernel_rfl) rfl ⟨rfl, H.out, Upd.refl _ _⟩
set_option maxRecDepth 100000 in
theorem tset_nil (col : Int) (on : Bool) (w : World) : Calls Try.prog 30 #[.pointer none, .int .i64 col, .bool on] w (fun e w' => e = .returned (.tuple #[]) ∧ w = w') := by
  go_enter Try.func30, Try.ntmps30
  go_wp2
  exact bodyPost_end (by kernel_rfl) rfl ⟨rfl, rfl⟩
/-- The next stop; the one ahead. -/
def upF (F : Nat → Bool) : Nat → Nat → Nat
  | 0, c => c
  | n + 1, c => if c < 1023 ∧ F c = false then upF F n (c + 1) else c
def nextF (F : Nat → Bool) (col : Int) : Int := if 1023 ≤ col then 1023 else (upF F 1024 ((max col 0).toNat + 1) : Int)
def dnF (F : Nat → Bool) : Nat → Nat
  | 0 => 0
  | c + 1 => if F (c + 1) = false then dnF F c else c + 1
def prevF (F : Nat → Bool) (col : Int) : Int := if col < 1 then 0 else (dnF F ((min col 1024).toNat - 1) : Int)
theorem upF_le (F : Nat → Bool) : ∀ n c, c ≤ 1023 → upF F n c ≤ 1023
  | 0, c, h => h
  | n + 1, c, h => by
    unfold upF
    split
    · exact upF_le F n (c + 1) (by omega)
    · exact h
theorem nextF_bd (F : Nat → Bool) (col : Int) : 1 ≤ nextF F col ∧ nextF F col ≤ 1023 := by
  unfold nextF
  split
  · omega
  · have h1 := upF_le F 1024 ((max col 0).toNat + 1) (by omega)
    have h2 : ∀ n c, c ≤ upF F n c := by
      intro n
      induction n with
      | zero => intro c; exact Nat.le_refl _
      | succ n ih =>
        intro c
        unfold upF
        split
        · exact Nat.le_trans (Nat.le_succ _) (ih (c + 1))
        · exact Nat.le_refl _
    have h3 := h2 1024 ((max col 0).toNat + 1)
    omega
set_option maxRecDepth 100000 in
set_option maxHeartbeats 1600000 in
theorem tnext_any (g : Nat) (F : Nat → Bool) (col : Int) (w : World) (h : StAt w g F) : Calls Try.prog 33 #[.pointer (some ⟨g, 0, none⟩), .int .i64 col] w (fun e w' => e = .returned (.int .i64 (nextF F col)) ∧ w = w') := by
  have HF := Lib.hid (show ∀ i, i < 1024 → w.cell? ⟨g, i, none⟩ = some (.bool (F i)) from fun i hi => h.cell hi)
  by_cases h1 : 1023 ≤ col
  · have hg1 : decide ((1023 : Int) ≤ col) = true := by rw [decide_eq_true_eq]; exact h1
    have hd : nextF F col = 1023 := by unfold nextF; rw [if_pos h1]
    rw [hd]
    clear h h1 hd
    go_enter Try.func33, Try.ntmps33
    go_wp2
    go_ret
    exact ⟨(ret_eq (by first | rfl | (simp <;> omega))), rfl⟩
  · have hg1 : decide ((1023 : Int) ≤ col) = false := by rw [decide_eq_false_iff_not]; exact h1
    obtain ⟨m, hm⟩ : ∃ m, m = (max col 0).toNat := ⟨_, rfl⟩
    have hd : nextF F col = (upF F 1024 (m + 1) : Int) := by unfold nextF; rw [if_neg h1, hm]
    have hmx : max col 0 = (m : Int) := by omega
    have HMX := Lib.hid hmx
    have hmb : m + 1 ≤ 1023 := by omega
    have hw1 : IntKind.i64.wrap ((m : Int) + 1) = (m : Int) + 1 := by rw [IntKind.wrap_i64]; omega
    have hw2 : IntKind.i64.wrap (max col 0 + 1) = max col 0 + 1 := by rw [IntKind.wrap_i64]; omega
    rw [hd]
    have HMB := Lib.hid hmb
    obtain ⟨R, hR⟩ : ∃ R, R = upF F 1024 (m + 1) := ⟨_, rfl⟩
    rw [← hR]
    have HRR := Lib.hid hR
    clear h h1 hd hm hmx hmb hR
    go_enter Try.func33, Try.ntmps33
    go_upto_region 4 with (fail)
    rw [HMX.out]
    go_loopw [1] (fun cv wr => ∃ (c n : Nat), c ≤ 1023 ∧ 1023 ≤ c + n ∧ cv = .int .i64 c ∧ upF F n c = R ∧ w = wr) (fun cv _ => 1023 - (intOf cv).toNat)
    case atStart => exact ⟨m + 1, 1024, HMB.out, by omega, by go_num, HRR.out.symm, rfl⟩
    case round =>
      obtain ⟨c, n, hc, hcn, rfl, hu, rfl⟩ := hrel
      have HU := Lib.hid hu
      clear hu
      by_cases hlt : c < 1023
      · have hg : decide ((c : Int) < 1023) = true := by rw [decide_eq_true_eq]; omega
        have hcell := HF.out c (by omega)
        have hlti : (c : Int) < 1024 := by omega
        have hltn : c < 1024 := by omega
        have hwc : IntKind.i64.wrap ((c : Int) + 1) = (c : Int) + 1 := by rw [IntKind.wrap_i64]; omega
        obtain ⟨n, rfl⟩ : ∃ n', n = n' + 1 := ⟨n - 1, by omega⟩
        have hu := HU.out
        unfold upF at hu
        cases hb : F c with
        | false =>
          rw [hb] at hcell
          rw [if_pos ⟨hlt, hb⟩] at hu
          have HU2 := Lib.hid hu
          clear hu hb
          go_wp2
          go_roundw
          case rel => exact ⟨c + 1, n, by omega, by omega, by go_num, HU2.out, trivial⟩
          case measure => simp [intOf] <;> omega
        | true =>
          rw [hb] at hcell
          rw [if_neg (fun e => by rw [hb] at e; exact absurd e.2 (by decide))] at hu
          have HU2 := Lib.hid hu
          clear hu hb
          go_wp2
          go_ret
          exact ⟨ret_eq (by rw [← HU2.out]; try rfl), rfl⟩
      · obtain rfl : c = 1023 := by omega
        have hu : upF F n 1023 = 1023 := by
          cases n with
          | zero => rfl
          | succ n => unfold upF; rw [if_neg (by omega)]
        have HU2 := Lib.hid (hu.symm.trans HU.out)
        clear hu
        go_wp2
        go_ret
        exact ⟨ret_eq (by rw [← HU2.out]; try rfl), rfl⟩
set_option maxRecDepth 100000 in
set_option maxHeartbeats 1600000 in
theorem tprev_any (g : Nat) (F : Nat → Bool) (col : Int) (w : World) (h : StAt w g F) : Calls Try.prog 35 #[.pointer (some ⟨g, 0, none⟩), .int .i64 col] w (fun e w' => e = .returned (.int .i64 (prevF F col)) ∧ w = w') := by
  have HF := Lib.hid (show ∀ i, i < 1024 → w.cell? ⟨g, i, none⟩ = some (.bool (F i)) from fun i hi => h.cell hi)
  by_cases h1 : col < 1
  · have hg1 : decide (col < 1) = true := by rw [decide_eq_true_eq]; exact h1
    have hd : prevF F col = 0 := by unfold prevF; rw [if_pos h1]
    rw [hd]
    clear h h1 hd
    go_enter Try.func35, Try.ntmps35
    go_wp2
    go_ret
    exact ⟨(ret_eq (by first | rfl | (simp <;> omega))), rfl⟩
  · have hg1 : decide (col < 1) = false := by rw [decide_eq_false_iff_not]; exact h1
    obtain ⟨m, hm⟩ : ∃ m, m = (min col 1024).toNat - 1 := ⟨_, rfl⟩
    have hd : prevF F col = (dnF F m : Int) := by unfold prevF; rw [if_neg h1, hm]
    have hmx : min col 1024 - 1 = (m : Int) := by omega
    have HMX := Lib.hid hmx
    have hw2 : IntKind.i64.wrap (min col 1024 - 1) = min col 1024 - 1 := by rw [IntKind.wrap_i64]; omega
    rw [hd]
    have HMB := Lib.hid (show m ≤ 1023 by omega)
    obtain ⟨R, hR⟩ : ∃ R, R = dnF F m := ⟨_, rfl⟩
    rw [← hR]
    have HRR := Lib.hid hR
    clear h h1 hd hm hmx hR
    go_enter Try.func35, Try.ntmps35
    go_upto_region 4 with (fail)
    rw [HMX.out]
    go_loopw [1] (fun cv wr => ∃ (c : Nat), c ≤ 1023 ∧ cv = .int .i64 c ∧ dnF F c = R ∧ w = wr) (fun cv _ => (intOf cv).toNat)
    case atStart => exact ⟨m, HMB.out, rfl, HRR.out.symm, rfl⟩
    case round =>
      obtain ⟨c, hc, rfl, hu, rfl⟩ := hrel
      cases c with
      | zero =>
        have HU2 := Lib.hid (show (0 : Nat) = R from hu)
        clear hu
        go_wp2
        go_ret
        exact ⟨ret_eq (by rw [← HU2.out]; try rfl), rfl⟩
      | succ c =>
        obtain ⟨d, hde⟩ : ∃ d, d = c + 1 := ⟨_, rfl⟩
        have hcell := HF.out (c + 1) (by omega)
        rw [show dnF F (c + 1) = if F (c + 1) = false then dnF F c else c + 1 from rfl] at hu
        rw [← hde] at hu hcell hc ⊢
        have hg : decide ((0 : Int) < (d : Int)) = true := by rw [decide_eq_true_eq]; omega
        have hg0 : 0 < d := by omega
        have hlti : (d : Int) < 1024 := by omega
        have hltn : d < 1024 := by omega
        have hwc : IntKind.i64.wrap ((d : Int) - 1) = (c : Int) := by rw [IntKind.wrap_i64]; omega
        have HDE := Lib.hid hde
        cases hb : F d with
        | false =>
          rw [hb] at hcell
          rw [if_pos hb] at hu
          have HU2 := Lib.hid hu
          clear hu hb hde
          go_wp2
          go_roundw
          case rel => exact ⟨c, by have := HDE.out; omega, rfl, HU2.out, trivial⟩
          case measure => have := HDE.out; simp [intOf] <;> omega
        | true =>
          rw [hb] at hcell
          rw [if_neg (by rw [hb]; decide)] at hu
          have HU2 := Lib.hid hu
          clear hu hb hde
          go_wp2
          go_ret
          exact ⟨ret_eq (by rw [← HU2.out]; try rfl), rfl⟩
set_option maxRecDepth 100000 in
theorem tnext_nil (col : Int) (w : World) : Calls Try.prog 33 #[.pointer none, .int .i64 col] w (fun e w' => e = .returned (.int .i64 1023) ∧ w = w') := by
  go_enter Try.func33, Try.ntmps33
  go_wp2
  go_ret
  exact ⟨(ret_eq (by first | rfl | (simp <;> omega))), rfl⟩
set_option maxRecDepth 100000 in
theorem tprev_nil (col : Int) (w : World) : Calls Try.prog 35 #[.pointer none, .int .i64 col] w (fun e w' => e = .returned (.int .i64 0) ∧ w = w') := by
  go_enter Try.func35, Try.ntmps35
  go_wp2
  go_ret
  exact ⟨(ret_eq (by first | rfl | (simp <;> omega))), rfl⟩
set_option maxRecDepth 100000 in
theorem tall_nil (w : World) : Calls Try.prog 31 #[.pointer none] w (fun e w' => e = .returned (.slice none 0 0) ∧ w = w') := by
  go_enter Try.func31, Try.ntmps31
  go_wp2
  go_ret
  exact ⟨(ret_eq (by first | rfl | (simp <;> omega))), rfl⟩
end Go.Proofs.Ytgkcobmbdpgceaa
/- tabs: All, Of, Every (57). -/
namespace Go.Proofs.Ytgkcobmbdpgceaa
open Go.RowKit Go.ChangeShapes Go.WideShapes
theorem info_arr : (Try.prog.info? 71).map (·.size) = some 1024 := by kernel_rfl
theorem info_i8 : (Try.prog.info? 3).map (fun i => (i.zero, i.size, i.bytes)) = some (some (.int .i64 0), (intE .i64).size, 8) := by kernel_rfl
theorem idx_any (F : Nat → Bool) (k : Nat) (b : Bool) (hk : k < 1024) (hb : F k = b) (w : World) : (Instr.index 71 (.agg (stC F).toArray) (.int .i64 (k : Int))).run Try.prog w = .ok (.bool b) w := by
  have hlt : (k : Int) < 1024 := by omega
  have h1 := stC_at F k hk
  rw [hb] at h1
  simp [Instr.index, asIntOf, run_underlying Try.underlying71, go_sem, hlt, part, hk, h1]
theorem stC_len (F : Nat → Bool) : (stC F).length = 1024 := by simp [stC]
/-- The stops, in order. -/
def allF (F : Nat → Bool) (k : Nat) : List Int := ((List.range k).filter F).map fun (i : Nat) => (i : Int)
theorem allF_succ (F : Nat → Bool) (k : Nat) : allF F (k + 1) = allF F k ++ if F k = true then [(k : Int)] else [] := by
  unfold allF
  rw [List.range_succ, List.filter_append, List.map_append]
  cases h : F k <;> simp [List.filter, h]
theorem allF_len (F : Nat → Bool) (k : Nat) : (allF F k).length ≤ k := by
  unfold allF
  rw [List.length_map]
  have := List.length_filter_le F (List.range k)
  rw [List.length_range] at this
  exact this
def MadeI (w : World) (L : List Int) (e : Ending) (w' : World) : Prop := ∃ v', e = .returned v' ∧ OwnE (intE .i64) (fun _ => True) w' w.heap.size 3 v' L ∧ Below w.heap.size w w'
set_option maxRecDepth 100000 in
set_option maxHeartbeats 1600000 in
theorem tall_any (g : Nat) (F : Nat → Bool) (w : World) (h : StAt w g F) : Calls Try.prog 31 #[.pointer (some ⟨g, 0, none⟩)] w (MadeI w (allF F 1024)) := by
  have HH := Lib.hid (show Has w g (stC F) 73 from h)
  have HL := Lib.hid (stC_len F)
  clear h
  go_enter Try.func31, Try.ntmps31
  go_wp2_with (refine wpList_load_has rfl 71 (.tmp 10) rfl g rfl 73 (stC F) _ 1024 HH.out Try.underlying71 rfl info_arr HL.out ?_)
  go_loopw [3, 12] (fun ov iv wr => ∃ k : Nat, k ≤ 1024 ∧ iv = .int .i64 k ∧ OwnE (intE .i64) (fun _ => True) wr w.heap.size 3 ov (allF F k) ∧ Below w.heap.size w wr) (fun _ iv _ => 1024 - (intOf iv).toNat)
  case atStart => exact ⟨0, Nat.zero_le _, rfl, OwnE.nil _ _ _ _ _, Below.refl _ _⟩
  case round =>
    obtain ⟨k, hk, rfl, hown, hbw⟩ := hrel
    obtain ⟨ov, hov⟩ : ∃ ov, ov = u3 := ⟨_, rfl⟩
    rw [← hov] at hown ⊢
    obtain ⟨wk, hwk⟩ : ∃ wk, wk = wr := ⟨_, rfl⟩
    subst hwk
    have HO := Lib.hid hown
    have HBW := Lib.hid hbw
    clear hov hown hbw
    by_cases hlt : k < 1024
    · have hlti : (k : Int) < 1024 := by omega
      have hg : decide ((k : Int) < 1024) = true := by rw [decide_eq_true_eq]; exact hlti
      have hwk : IntKind.i64.wrap ((k : Int) + 1) = (k : Int) + 1 := by rw [IntKind.wrap_i64]; omega
      have hs := allF_succ F k
      have HFL := Lib.hid (allF_len F k)
      cases hb : F k with
      | true =>
        have hidx := idx_any F k true hlt hb
        rw [if_pos hb] at hs
        have b0 := (Below.refl wk.heap.size wk).alloc (Nat.le_refl _) (.cells [.int .i64 (k : Int)].toArray 3)
        have HO1 := Lib.hid (HO.out.below b0)
        have HB1 := Lib.hid (HBW.out.trans (b0.mono HBW.out.size))
        have HU := Lib.hid (show HeldE (intE .i64) (fun b => True ∧ ov.ownBlock ≠ some b) (wk.alloc (.cells [.int .i64 (k : Int)].toArray 3)) (.slice (some ⟨wk.heap.size, 0, none⟩) 1 1) [(k : Int)] from heldE_one (E := intE .i64) (Y := fun _ => False) [.int .i64 (k : Int)] (k : Int) rfl (fun _ _ h => h.elim) ⟨trivial, fun e => by have := (HO.out.lt _ e).2; omega⟩)
        have HSS := Lib.hid hs
        obtain ⟨AL, hAL⟩ : ∃ AL, AL = allF F k := ⟨_, rfl⟩
        rw [← hAL] at HO1 HSS HFL
        clear b0 hs hb hAL
        go_wp2_with (at_builtin; refine wpList_append_e (E := intE .i64) (Z := fun _ => True) rfl (.tmp 17) (.tmp 19) 43 rfl (.int .i64 0) 8 Try.underlying43 info_i8 rfl (by decide) rfl rfl HO1.out HU.out (by simp only [List.length_singleton]; have := HFL.out; omega) (by simp only [List.length_singleton]; have := HFL.out; omega) HB1.out.size ?_)
        intro v2 w2 ho2 b2 _ _
        rw [← HSS.out] at ho2
        have HF1 := Lib.hid ho2
        have HF2 := Lib.hid (HB1.out.trans b2)
        clear ho2 b2
        go_wp2
        go_roundw
        case rel => exact ⟨k + 1, by omega, by go_num, HF1.out, HF2.out⟩
        case measure => simp [intOf] <;> omega
      | false =>
        have hidx := idx_any F k false hlt hb
        rw [if_neg (by rw [hb]; decide), List.append_nil] at hs
        have HF1 := Lib.hid (show OwnE (intE .i64) (fun _ => True) wk w.heap.size 3 ov (allF F (k + 1)) from by rw [hs]; exact HO.out)
        clear hs hb
        go_wp2
        go_roundw
        case rel => exact ⟨k + 1, by omega, by go_num, HF1.out, HBW.out⟩
        case measure => simp [intOf] <;> omega
    · obtain rfl : k = 1024 := by omega
      go_wp2
      go_ret
      exact ⟨_, (ret_eq (by first | rfl | (simp <;> omega))), HO.out, HBW.out⟩
/-- Stops at places. -/
def ofF (cols : List Int) : Nat → Bool := cols.foldl (fun F c => setF F c true) (fun _ => false)
theorem ofF_snoc (l : List Int) (c : Int) : ofF (l ++ [c]) = setF (ofF l) c true := by unfold ofF; rw [List.foldl_append]; rfl
def StMade (w : World) (F : Nat → Bool) (e : Ending) (w' : World) : Prop := ∃ g, e = .returned (.pointer (some ⟨g, 0, none⟩)) ∧ w.heap.size ≤ g ∧ StAt w' g F ∧ Below w.heap.size w w'
set_option maxRecDepth 100000 in
set_option maxHeartbeats 1600000 in
theorem tof_any (v : Value) (cols : List Int) (w : World) (hv : Held .i64 w v cols) (hn : cols.length ≤ 1000000) : Calls Try.prog 29 #[v] w (StMade w (ofF cols)) := by
  obtain ⟨ao, ca, rfl⟩ := hv.len
  have b0 := (Below.refl w.heap.size w).alloc (Nat.le_refl _) (.cells Try.zeroCells73 73)
  have hst : StAt (w.alloc (.cells Try.zeroCells73 73)) w.heap.size (fun _ => false) := by
    have h := heap_alloc_new w (.cells Try.zeroCells73 73)
    rw [zero_st] at h ⊢
    exact h
  have HS := Lib.hid (show ∀ k, k < cols.length → ∃ b off, ao = some ⟨b, off, none⟩ ∧ b < w.heap.size ∧ w.cell? ⟨b, off + k, none⟩ = some (.int .i64 (cols.getD k 0)) from fun k hk => hv.spots k hk)
  have HB0 := Lib.hid b0
  have HST := Lib.hid hst
  have HTK := Lib.hid (show ∀ k, k < cols.length → cols.take (k + 1) = cols.take k ++ [cols.getD k 0] from fun k hk => by
    rw [List.take_succ_eq_append_getElem hk, show cols.getD k 0 = cols[k] from by simp [List.getD, List.getElem?_eq_getElem hk]])
  obtain ⟨n, hnn⟩ : ∃ n, n = cols.length := ⟨_, rfl⟩
  have HN := Lib.hid hnn
  rw [← hnn] at HS HTK hn ⊢
  clear hv b0 hst hnn
  go_enter Try.func29, Try.ntmps29
  go_wp2
  go_loopw [10] (fun iv wr => ∃ k : Nat, k ≤ n ∧ iv = .int .i64 k ∧ StAt wr w.heap.size (ofF (cols.take k)) ∧ Below w.heap.size w wr) (fun iv _ => n - (intOf iv).toNat)
  case atStart => exact ⟨0, Nat.zero_le _, rfl, HST.out, HB0.out⟩
  case round =>
    obtain ⟨k, hk, rfl, hst, hbw⟩ := hrel
    obtain ⟨wk, hwk⟩ : ∃ wk, wk = wr := ⟨_, rfl⟩
    subst hwk
    have HK := Lib.hid hst
    have HBW := Lib.hid hbw
    clear hst hbw
    by_cases hlt : k < n
    · obtain ⟨b, off, e, hb, hc⟩ := HS.out k hlt
      subst e
      have c0 := (HBW.out.cell (p := ⟨b, off + k, none⟩) hb).trans hc
      have hset := tset_any w.heap.size (ofF (cols.take k)) (cols.getD k 0) true wk HK.out
      rw [← ofF_snoc, ← HTK.out k hlt] at hset
      obtain ⟨x, hx⟩ : ∃ x, x = cols.getD k 0 := ⟨_, rfl⟩
      rw [← hx] at c0 hset
      have hki : (k : Int) < (n : Int) := by omega
      have hwk : IntKind.i64.wrap ((k : Int) + 1) = (k : Int) + 1 := by rw [IntKind.wrap_i64]; omega
      clear hc hx hb
      go_wp2_with fail
      refine hset.mono ?_
      clear hset
      rintro e w2 ⟨rfl, h1, h2⟩
      have HF1 := Lib.hid h1
      have HF2 := Lib.hid (HBW.out.upd h2 HBW.out.size (fun b e => by omega))
      clear h1 h2
      go_wp2
      go_roundw
      case rel => exact ⟨k + 1, by omega, by go_num, HF1.out, HF2.out⟩
      case measure => simp [intOf] <;> omega
    · obtain rfl : k = n := by omega
      have hst := HK.out
      rw [show cols.take k = cols from by rw [HN.out, List.take_length]] at hst
      have HF := Lib.hid hst
      clear hst
      go_wp2
      go_ret
      exact ⟨_, (ret_eq (by first | rfl | (simp <;> omega))), Nat.le_refl _, HF.out, HBW.out⟩
end Go.Proofs.Ytgkcobmbdpgceaa
/- tabs.Every; texts brought to stops: numbers alone (57). -/
namespace Go.Proofs.Ytgkcobmbdpgceaa
open Go.RowKit Go.ChangeShapes Go.WideShapes
theorem ofF_mem (l : List Int) : ∀ (G : Nat → Bool) (k : Nat), (l.foldl (fun F c => setF F c true) G) k = true ↔ (G k = true ∨ ((k : Int) ∈ l ∧ 1 ≤ k ∧ k ≤ 1023)) := by
  induction l with
  | nil => intro G k; simp
  | cons c l ih =>
    intro G k
    rw [List.foldl_cons, ih, List.mem_cons]
    unfold setF
    by_cases h : (k : Int) = c ∧ 1 ≤ c ∧ c ≤ 1023
    · rw [if_pos h]
      constructor
      · intro _; exact .inr ⟨.inl h.1, by omega, by omega⟩
      · intro _; exact .inl rfl
    · rw [if_neg h]
      constructor
      · rintro (h1 | ⟨h1, h2⟩)
        · exact .inl h1
        · exact .inr ⟨.inr h1, h2⟩
      · rintro (h1 | ⟨h1 | h1, h2⟩)
        · exact .inl h1
        · exact absurd ⟨h1, by omega, by omega⟩ h
        · exact .inr ⟨h1, h2⟩
theorem ofF_iff (l : List Int) (k : Nat) : ofF l k = true ↔ ((k : Int) ∈ l ∧ 1 ≤ k ∧ k ≤ 1023) := by
  have := ofF_mem l (fun _ => false) k
  unfold ofF
  rw [this]
  simp
/-- So many times n. -/
def mulL (n j : Nat) : List Int := (List.range j).map fun (i : Nat) => (((i + 1) * n : Nat) : Int)
theorem mulL_succ (n j : Nat) : mulL n (j + 1) = mulL n j ++ [(((j + 1) * n : Nat) : Int)] := by unfold mulL; rw [List.range_succ, List.map_append]; rfl
theorem mulL_len (n j : Nat) : (mulL n j).length = j := by simp [mulL]
def evN (W : Int) : Nat := (min (max W 1) 1024).toNat
theorem evN_bd (W : Int) : 1 ≤ evN W ∧ evN W ≤ 1024 := by unfold evN; omega
def everyL (W : Int) : List Int := mulL (evN W) (1023 / evN W)
theorem div_is {n j : Nat} (h0 : 1 ≤ n) (h1 : j * n ≤ 1023) (h2 : 1023 < (j + 1) * n) : 1023 / n = j := by
  refine Nat.div_eq_of_lt_le (by omega) (by omega)
set_option maxRecDepth 100000 in
set_option maxHeartbeats 1600000 in
theorem tevery_any (W : Int) (w : World) : Calls Try.prog 37 #[.int .i64 W] w (StMade w (ofF (everyL W))) := by
  have b0 := (Below.refl w.heap.size w).alloc (Nat.le_refl _) (.cells Try.zeroCells73 73)
  have hst : StAt (w.alloc (.cells Try.zeroCells73 73)) w.heap.size (fun _ => false) := by
    have h := heap_alloc_new w (.cells Try.zeroCells73 73)
    rw [zero_st] at h ⊢
    exact h
  have HB0 := Lib.hid b0
  have HST := Lib.hid hst
  have hne : min (max W 1) 1024 = (evN W : Int) := by unfold evN; omega
  have hb := evN_bd W
  have HD := Lib.hid (show everyL W = mulL (evN W) (1023 / evN W) from rfl)
  obtain ⟨n, hn⟩ : ∃ n, n = evN W := ⟨_, rfl⟩
  rw [← hn] at hne hb HD
  have HNE := Lib.hid hne
  obtain ⟨EL, hEL⟩ : ∃ EL, EL = everyL W := ⟨_, rfl⟩
  rw [← hEL] at HD ⊢
  have HBN := Lib.hid hb
  clear b0 hst hne hn hEL hb
  go_enter Try.func37, Try.ntmps37
  go_upto_region 2 with (fail)
  rw [HNE.out]
  go_wp2
  go_loopw [4] (fun cv wr => ∃ j c : Nat, c = (j + 1) * n ∧ j * n ≤ 1023 ∧ cv = .int .i64 c ∧ StAt wr w.heap.size (ofF (mulL n j)) ∧ Below w.heap.size w wr) (fun cv _ => 2048 - (intOf cv).toNat)
  case atStart => exact ⟨0, n, by omega, by omega, rfl, HST.out, HB0.out⟩
  case round =>
    obtain ⟨j, c, hc, hj, rfl, hst, hbw⟩ := hrel
    obtain ⟨wk, hwk⟩ : ∃ wk, wk = wr := ⟨_, rfl⟩
    subst hwk
    have HK := Lib.hid hst
    have HBW := Lib.hid hbw
    clear hst hbw
    have hcs : (j + 1) * n = j * n + n := Nat.succ_mul j n
    by_cases hlt : c ≤ 1023
    · have hg : decide ((c : Int) ≤ 1023) = true := by rw [decide_eq_true_eq]; omega
      have hset := tset_any w.heap.size (ofF (mulL n j)) (c : Int) true wk HK.out
      have hms := mulL_succ n j
      rw [← hc] at hms
      rw [← ofF_snoc, ← hms] at hset
      have hwa : IntKind.i64.wrap ((c : Int) + (n : Int)) = (c : Int) + (n : Int) := by rw [IntKind.wrap_i64]; have := HBN.out; omega
      have HNX := Lib.hid (show c + n = (j + 1 + 1) * n ∧ (j + 1) * n ≤ 1023 from ⟨by rw [Nat.succ_mul (j + 1) n, ← hc], by omega⟩)
      have HLT := Lib.hid hlt
      clear hms hc hcs hlt
      go_wp2_with fail
      refine hset.mono ?_
      clear hset
      rintro e w2 ⟨rfl, h1, h2⟩
      have HF1 := Lib.hid h1
      have HF2 := Lib.hid (HBW.out.upd h2 HBW.out.size (fun b e => by omega))
      clear h1 h2
      go_wp2
      go_roundw
      case rel => exact ⟨j + 1, c + n, HNX.out.1, HNX.out.2, by go_num, HF1.out, HF2.out⟩
      case measure => have := HBN.out; have := HLT.out; simp [intOf] <;> omega
    · have hg : decide ((c : Int) ≤ 1023) = false := by rw [decide_eq_false_iff_not]; omega
      have hd := div_is (n := n) (j := j) HBN.out.1 hj (by omega)
      have hst := HK.out
      rw [← hd, ← HD.out] at hst
      have HF := Lib.hid hst
      clear hst hd hc hcs hj
      go_wp2
      go_ret
      exact ⟨_, (ret_eq (by first | rfl | (simp <;> omega))), Nat.le_refl _, HF.out, HBW.out⟩
/-- A cluster of a text that is brought to stops; the text, and where the next cluster stands. -/
def tabS (F : Nat → Bool) (s : List Int × Int) (T : List Int) : List Int × Int :=
  if T.length = 1 ∧ T.getD 0 0 = 9 then (s.1 ++ List.replicate (max (nextF F s.2 - s.2) 1).toNat 32, s.2 + max (nextF F s.2 - s.2) 1)
  else (s.1 ++ T, if T.getD (T.length - 1) 0 = 10 then 0 else s.2 + wdC T)
def expT (F : Nat → Bool) (L : List (List Int)) : List Int × Int := L.foldl (tabS F) ([], 0)
def expC (F : Nat → Bool) (xs : List Int) : List Int := (expT F (cluA xs)).1
theorem expT_snoc (F : Nat → Bool) (L : List (List Int)) (T : List Int) : expT F (L ++ [T]) = tabS F (expT F L) T := by unfold expT; rw [List.foldl_append]; rfl
/-- How far a text and its place can have come. -/
def ExpB (k : Nat) (s : List Int × Int) : Prop := 0 ≤ s.2 ∧ s.2 ≤ 1023 + 2 * (k : Int) ∧ s.1.length ≤ 1001023 * k
theorem ExpB.step {F : Nat → Bool} {k : Nat} {s : List Int × Int} (h : ExpB k s) {T : List Int} (hT : T.length ≤ 1000000) : ExpB (k + 1) (tabS F s T) := by
  obtain ⟨h1, h2, h3⟩ := h
  have hn := nextF_bd F s.2
  have hw := wdC_bd T
  unfold tabS
  split
  · refine ⟨?_, ?_, ?_⟩
    · show 0 ≤ s.2 + _; omega
    · show s.2 + _ ≤ _; omega
    · show (s.1 ++ List.replicate _ 32).length ≤ _
      rw [List.length_append, List.length_replicate]; omega
  · refine ⟨?_, ?_, ?_⟩
    · show 0 ≤ (if T.getD (T.length - 1) 0 = 10 then (0 : Int) else s.2 + wdC T)
      split <;> omega
    · show (if T.getD (T.length - 1) 0 = 10 then (0 : Int) else s.2 + wdC T) ≤ 1023 + 2 * ((k + 1 : Nat) : Int)
      split <;> omega
    · show (s.1 ++ T).length ≤ _
      rw [List.length_append]; omega
theorem ExpB.zero : ExpB 0 ([], 0) := ⟨Int.le_refl _, by decide, Nat.le_refl _⟩
end Go.Proofs.Ytgkcobmbdpgceaa
