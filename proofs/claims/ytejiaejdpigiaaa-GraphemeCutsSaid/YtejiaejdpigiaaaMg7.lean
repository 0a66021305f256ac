/- Texts put together: GraO, GraT, GraQ, GraR. -/
import Derived.Test.YtejiaejdpigiaaaGraN
import Derived.Test.YtejiaejdpigiaaaMg1
import Derived.Test.YtejiaejdpigiaaaMg2
/- Count; the works of layer 16. -/
namespace Go.Proofs.Ytejiaejdpigiaaa
open Go.RowKit Go.ChangeShapes Go.WideShapes
theorem gcount_any (v : Value) (xs : List Int) (w : World) (hx : Held .i32 w v xs) (hn : xs.length ≤ 1000000) : Calls Try.prog 19 #[v] w (Gives w (.int .i64 (startB (jR (knownL xs)) xs.length).length)) := by
  have HS := Lib.hid (gstarts_any v xs w hx hn)
  clear hx
  go_enter Try.func19, Try.ntmps19
  go_wp2_with fail
  refine HS.out.mono ?_
  rintro e w1 ⟨v1, n, rfl, ho, b1⟩
  have hl := ho.1
  rw [List.length_map, toI_len] at hl
  obtain ⟨a1, c1, rfl⟩ := (ownE_ints (Z := fun _ => True) ho).held (Z := fun _ => True) (fun _ _ _ => trivial) |>.len
  have HB := Lib.hid b1
  have HL := Lib.hid (toI_len (startB (jR (knownL xs)) xs.length))
  clear ho b1 hl
  go_wp2
  go_ret
  exact ⟨ret_eq (by rw [HL.out]; try rfl), HB.out⟩
theorem clu_first : cluA [101, 769, 97] = [[101, 769], [97]] := by decide +kernel
theorem count_flags : (startB (jR (knownL [127465, 127466, 127467])) 3).length = 2 := by decide +kernel
set_option maxRecDepth 100000 in
set_option maxHeartbeats 1600000 in
theorem works16_any (w : World) : Calls Try.prog 14 #[] w (Yes w) := by
  have hb1 := (Below.refl w.heap.size w).alloc (Nat.le_refl _) (.cells #[.int .i32 101, .int .i32 769, .int .i32 97] 21)
  have HB1 := Lib.hid hb1
  have h1 := gclus_any (.slice (some ⟨w.heap.size, 0, none⟩) 3 3) [101, 769, 97] _ (held_new .i32 w [.int .i32 101, .int .i32 769, .int .i32 97] 21 3 3 [101, 769, 97] rfl rfl) (by decide)
  rw [clu_first] at h1
  have H1 := Lib.hid h1
  clear hb1 h1
  go_enter Try.func14, Try.ntmps14
  go_wp2_with fail
  refine H1.out.mono ?_
  rintro e w1 ⟨v1, rfl, ho1, b1⟩
  have B1 := Lib.hid (HB1.out.trans (b1.mono HB1.out.size))
  have hh := ho1.held (fun b h _ => h)
  obtain ⟨a1, c1, rfl, _, _, _, hc⟩ := id hh
  obtain ⟨b, off, rfl, hb, _, C, hC, tv, rfl, ht⟩ := hc 0 (by decide)
  obtain ⟨a2, c2, rfl⟩ := ht.len
  have c0 : w1.cell? ⟨b, off, none⟩ = some (.slice a2 2 c2) := by have := hC 0 (by decide); simpa using this
  have hcap : 0 < c1 := by obtain ⟨_, hq, _⟩ := hh.spots; simp at hq; omega
  have HA := Lib.hid (gall_any (.slice none 0 0) [] w1 (Held.nil _ _) (by decide))
  clear ho1 b1 hh hc hC ht H1 HB1
  go_wp2_with fail
  refine HA.out.mono ?_
  rintro e w2 ⟨B, vk, rfl, _, _, b2, _⟩
  have B2 := Lib.hid (B1.out.trans (b2.mono B1.out.size))
  have hb3 := (Below.refl w2.heap.size w2).alloc (Nat.le_refl _) (.cells #[.int .i32 127465, .int .i32 127466, .int .i32 127467] 21)
  have B3 := Lib.hid (B2.out.trans (hb3.mono B2.out.size))
  have h3 := gcount_any (.slice (some ⟨w2.heap.size, 0, none⟩) 3 3) [127465, 127466, 127467] _ (held_new .i32 w2 [.int .i32 127465, .int .i32 127466, .int .i32 127467] 21 3 3 [127465, 127466, 127467] rfl rfl) (by decide)
  rw [show ([127465, 127466, 127467] : List Int).length = 3 from rfl, count_flags] at h3
  have H3 := Lib.hid h3
  have hrun : Sem.run Try.prog (binOp BinOp.neq 34 (.func (.func 56) #[] #[.pointer (some ⟨B, 0, none⟩)]) .nilFunc) w2 = .ok (.bool true) w2 := by kernel_rfl
  clear b2 hb3 h3 HA
  go_wp2_with fail
  refine H3.out.mono ?_
  rintro e w3 ⟨rfl, b3⟩
  have HF := Lib.hid (B3.out.trans (b3.mono B3.out.size))
  clear b3 H3
  go_wp2
  go_ret
  exact ⟨(ret_eq (by first | rfl | (simp <;> omega))), HF.out⟩
end Go.Proofs.Ytejiaejdpigiaaa
/- Rows of numbers that are arguments. -/
namespace Go.Proofs.Ytejiaejdpigiaaa
open Go.RowKit Go.ChangeShapes Go.WideShapes
theorem bounds_of {xs : List Int} (hp : ∀ x ∈ xs, (Lit.int .i32 x).wf = true) : bounds32 xs := by
  intro i hi
  have hm : xs.getD i 0 ∈ xs := by simp [List.getD, List.getElem?_eq_getElem hi]
  have hw := hp _ hm
  simp [Lit.wf] at hw
  exact hw
set_option maxRecDepth 100000 in
theorem runes_arg {H : Type} {enc : TypeId × Value → H} {W : World} {base : Nat} {v : Value} {d : DataW H} {p : List MemPlace} (hv : Value.okWide Try.prog W .any base 22 v) (h : DataW.Trod enc Try.prog W 0 (fun _ => true) true 22 v d p) : ∃ L, HeldE (intE .i32) (fun b => b < W.heap.size) W v L ∧ bounds32 L := by
  obtain ⟨L, hL, hk⟩ := opens_arg (E := intE .i32) Try.underlying22 (by kernel_rfl) (by decide) (opens_int Try.underlying21 (by kernel_rfl)) hv h
  exact ⟨L, hL, bounds_of hk⟩
end Go.Proofs.Ytejiaejdpigiaaa
/- Clusters in a row: what came so far is the beginning of the row. -/
namespace Go.Proofs.Ytejiaejdpigiaaa
open Go.RowKit Go.ChangeShapes Go.WideShapes
theorem startB_head (j : Nat → Bool) (h0 : j 0 = false) (n : Nat) (h : 0 < n) : (startB j n).getD 0 0 = 0 := by
  have : 0 ∈ startB j n := startB_mem.2 ⟨h, h0⟩
  unfold startB
  obtain ⟨m, rfl⟩ : ∃ m, n = m + 1 := ⟨n - 1, by omega⟩
  rw [List.range_succ_eq_map, List.filter_cons_of_pos (by rw [h0]; rfl)]
  rfl
/-- Where the first k end. -/
def endC (xs : List Int) (k : Nat) : Nat := (startB (jR (knownL xs)) xs.length ++ [xs.length]).getD k 0
theorem endC_zero (xs : List Int) : endC xs 0 = 0 := by
  unfold endC
  rcases Nat.eq_zero_or_pos xs.length with h | h
  · rw [h]; rfl
  · have h1 := startB_head (jR (knownL xs)) (jR_zero _) xs.length h
    have hne : 0 < (startB (jR (knownL xs)) xs.length).length := List.length_pos_of_mem (startB_mem.2 ⟨h, jR_zero _⟩)
    rw [List.getD, List.getElem?_append_left hne]
    exact h1
theorem clS_at (xs : List Int) (k : Nat) (h : k < (clS xs).length) : (clS xs).getD k (0, 0) = (endC xs k, endC xs (k + 1)) :=
  spansB_at (jR (knownL xs)) (jR_zero _) xs.length k (by rw [← spansB_len _ (jR_zero _)]; exact h)
theorem clS_ok (xs : List Int) (k : Nat) (h : k < (clS xs).length) : endC xs k < endC xs (k + 1) ∧ endC xs (k + 1) ≤ xs.length := by
  have hm : (clS xs).getD k (0, 0) ∈ clS xs := by
    rw [List.getD, List.getElem?_eq_getElem h]
    exact List.getElem_mem _
  have := spansB_ok _ _ _ hm
  rw [clS_at xs k h] at this
  exact this
theorem endC_last (xs : List Int) : endC xs (clS xs).length = xs.length := by
  unfold endC
  have : (clS xs).length = (startB (jR (knownL xs)) xs.length).length := spansB_len _ (jR_zero _) _
  rw [this, List.getD, List.getElem?_append_right (Nat.le_refl _), Nat.sub_self]
  rfl
theorem flat_take (xs : List Int) : ∀ k, k ≤ (clS xs).length → (((clS xs).take k).map (sliceL xs)).flatten = xs.take (endC xs k)
  | 0, _ => by rw [endC_zero]; simp
  | k + 1, h => by
    have ih := flat_take xs k (by omega)
    rw [List.take_succ_eq_append_getElem (by omega), List.map_append, List.flatten_append, ih]
    have e : (clS xs)[k]'(by omega) = (endC xs k, endC xs (k + 1)) := by
      rw [← clS_at xs k (by omega)]
      simp [List.getD, List.getElem?_eq_getElem (show k < (clS xs).length by omega)]
    simp only [List.map_cons, List.map_nil, List.flatten_cons, List.flatten_nil, List.append_nil]
    rw [e]
    exact sliceL_next xs _ _ (Nat.le_of_lt (clS_ok xs k (by omega)).1)
theorem endC_le (xs : List Int) (k : Nat) (h : k ≤ (clS xs).length) : endC xs k ≤ xs.length := by
  rcases Nat.eq_zero_or_pos k with e | e
  · rw [e, endC_zero]; exact Nat.zero_le _
  · obtain ⟨m, rfl⟩ : ∃ m, k = m + 1 := ⟨k - 1, by omega⟩
    exact (clS_ok xs m (by omega)).2
/-- What a round is told: the next cluster. -/
theorem next_cu {xs : List Int} {pre : List Cu} {x : Cu} (h : (pre ++ [x]).map Cu.p <+: clS xs) : pre.length < (clS xs).length ∧ x.p = (endC xs pre.length, endC xs (pre.length + 1)) ∧ pre.map Cu.p = (clS xs).take pre.length := by
  have hl := h.length_le
  rw [List.length_map, List.length_append, List.length_singleton] at hl
  have ht := List.prefix_iff_eq_take.1 h
  rw [List.length_map, List.length_append, List.length_singleton, List.map_append] at ht
  have h1 : (pre.map Cu.p ++ [x.p]).take pre.length = ((clS xs).take (pre.length + 1)).take pre.length := by rw [← ht]; rfl
  have h2 : (pre.map Cu.p ++ [x.p]).getD pre.length (0, 0) = ((clS xs).take (pre.length + 1)).getD pre.length (0, 0) := by rw [← ht]; rfl
  rw [List.take_take, List.take_left' (by simp), Nat.min_eq_left (by omega)] at h1
  refine ⟨by omega, ?_, h1⟩
  rw [List.getD, List.getElem?_append_right (by simp)] at h2
  simp only [List.length_map, Nat.sub_self, List.getElem?_cons_zero, Option.getD_some] at h2
  rw [h2]
  have e : ((clS xs).take (pre.length + 1)).getD pre.length (0, 0) = (clS xs).getD pre.length (0, 0) := by simp [List.getD, List.getElem?_take]
  rw [e, clS_at xs _ (by omega)]
end Go.Proofs.Ytejiaejdpigiaaa
/- Clusters of two rows, of which the second one begins with one that breaks: numbers alone. -/
namespace Go.Proofs.Ytejiaejdpigiaaa
open Go.RowKit Go.ChangeShapes Go.WideShapes
def apartT (A B : List (Int × Int)) : Bool := A.all fun p => B.all fun q => decide (p.2 < q.1) || decide (q.2 < p.1)
theorem apart_tab {A B : List (Int × Int)} (h : apartT A B = true) {r : Int} (ha : inTab A r = true) : inTab B r = false := by
  cases hb : inTab B r with
  | false => rfl
  | true =>
    obtain ⟨p, hp, h1⟩ := List.any_eq_true.1 ha
    obtain ⟨q, hq, h2⟩ := List.any_eq_true.1 hb
    have h3 := List.all_eq_true.1 (List.all_eq_true.1 h p hp) q hq
    simp at h1 h2 h3
    omega
theorem ctrl_pict : apartT tControl tPict = true := by decide +kernel
theorem ctrl_cons : apartT tControl tCons = true := by decide +kernel
theorem ctrl_link : apartT tControl tLink = true := by decide +kernel
theorem ctrl_join : apartT tControl tJoin = true := by decide +kernel
theorem class_ends (r : Int) : classI r = 0 ∨ 9 ≤ classI r := by
  unfold classI
  repeat' split
  all_goals omega
/-- What breaks on both sides is no picture, and has no part in a conjunct. -/
theorem ctrl_plain {r : Int} (h : 1 ≤ gcbI r ∧ gcbI r ≤ 3) : inTab tPict r = false ∧ conjO r = 0 := by
  have hc : r = 13 ∨ r = 10 ∨ inTab tControl r = true := by
    by_cases h1 : r = 13
    · exact .inl h1
    by_cases h2 : r = 10
    · exact .inr (.inl h2)
    right; right
    cases hi : inTab tControl r with
    | true => rfl
    | false =>
      exfalso
      unfold gcbI listedI at h
      rw [if_neg h1, if_neg h2, hi] at h
      simp only [Bool.false_eq_true, if_false] at h
      have hcl := class_ends r
      repeat' split at h
      all_goals omega
  rcases hc with rfl | rfl | hc
  · exact ⟨by decide +kernel, by decide +kernel⟩
  · exact ⟨by decide +kernel, by decide +kernel⟩
  · refine ⟨apart_tab ctrl_pict hc, ?_⟩
    unfold conjO
    rw [apart_tab ctrl_cons hc, apart_tab ctrl_link hc, apart_tab ctrl_join hc]
    rfl
theorem sts_congr {xs ys : List Pr} : ∀ k, (∀ i, i < k → xs.getD i Pr.none = ys.getD i Pr.none) → cSt xs k = cSt ys k ∧ pSt xs k = pSt ys k ∧ oSt xs k = oSt ys k ∧ lSt xs k = lSt ys k
  | 0, _ => ⟨rfl, rfl, rfl, rfl⟩
  | k + 1, h => by
    obtain ⟨h1, h2, h3, _⟩ := sts_congr k fun i hi => h i (by omega)
    have h5 := h k (by omega)
    simp only [cSt, pSt, oSt, lSt]
    rw [h1, h2, h3, h5]
    exact ⟨rfl, rfl, rfl, rfl⟩
theorem jR_congr {xs ys : List Pr} (k : Nat) (h : ∀ i, i < k + 1 → xs.getD i Pr.none = ys.getD i Pr.none) : jR xs k = jR ys k := by
  obtain ⟨h1, h2, h3, h4⟩ := sts_congr k fun i hi => h i (by omega)
  rw [jR_st, jR_st, h1, h2, h3, h4, h k (by omega)]
theorem known_left (a b : List Int) (i : Nat) (h : i < a.length) : (knownL (a ++ b)).getD i Pr.none = (knownL a).getD i Pr.none := by
  unfold knownL
  rw [List.map_append]
  simp [List.getD, List.getElem?_append_left (show i < (a.map knownPr).length by simpa using h)]
theorem known_right (a b : List Int) (i : Nat) : (knownL (a ++ b)).getD (a.length + i) Pr.none = (knownL b).getD i Pr.none := by
  unfold knownL
  rw [List.map_append, List.getD, List.getElem?_append_right (by simp)]
  simp [List.getD]
theorem sts_shift {a b : List Int} {r : Int} {t : List Int} (hb : b = r :: t) (hr : 1 ≤ gcbI r ∧ gcbI r ≤ 3) : ∀ i, cSt (knownL (a ++ b)) (a.length + (i + 1)) = cSt (knownL b) (i + 1) ∧ pSt (knownL (a ++ b)) (a.length + (i + 1)) = pSt (knownL b) (i + 1) ∧ oSt (knownL (a ++ b)) (a.length + (i + 1)) = oSt (knownL b) (i + 1) ∧ lSt (knownL (a ++ b)) (a.length + (i + 1)) = lSt (knownL b) (i + 1)
  | 0 => by
    obtain ⟨h1, h2⟩ := ctrl_plain hr
    have h3 := known_right a b 0
    have h4 : (knownL b).getD 0 Pr.none = knownPr r := by rw [hb]; rfl
    rw [Nat.add_zero, h4] at h3
    have e1 : (knownPr r).br = gcbI r := rfl
    have e2 : (knownPr r).pc = inTab tPict r := rfl
    have e3 : (knownPr r).cv = conjO r := rfl
    show cSt _ (a.length + 0 + 1) = cSt _ (0 + 1) ∧ pSt _ (a.length + 0 + 1) = pSt _ (0 + 1) ∧ oSt _ (a.length + 0 + 1) = oSt _ (0 + 1) ∧ lSt _ (a.length + 0 + 1) = lSt _ (0 + 1)
    rw [Nat.add_zero]
    simp only [cSt, pSt, oSt, lSt]
    rw [h3, h4, e1, e2, e3, h1, h2]
    refine ⟨by simp [conjI], ?_, ?_, rfl⟩
    · unfold picI
      simp only [Bool.false_eq_true, if_false]
      split <;> split <;> first | rfl | (split <;> first | rfl | omega) | omega
    · have : (gcbI r == 6) = false := by rw [beq_eq_false_iff_ne]; omega
      rw [this]; rfl
  | i + 1 => by
    obtain ⟨h1, h2, h3, _⟩ := sts_shift (a := a) hb hr i
    have h5 := known_right a b (i + 1)
    show cSt _ (a.length + (i + 1) + 1) = cSt _ (i + 1 + 1) ∧ pSt _ (a.length + (i + 1) + 1) = pSt _ (i + 1 + 1) ∧ oSt _ (a.length + (i + 1) + 1) = oSt _ (i + 1 + 1) ∧ lSt _ (a.length + (i + 1) + 1) = lSt _ (i + 1 + 1)
    have c1 : cSt (knownL (a ++ b)) (a.length + (i + 1) + 1) = conjI (cSt (knownL (a ++ b)) (a.length + (i + 1))) ((knownL (a ++ b)).getD (a.length + (i + 1)) Pr.none).cv := rfl
    have c2 : pSt (knownL (a ++ b)) (a.length + (i + 1) + 1) = picI (pSt (knownL (a ++ b)) (a.length + (i + 1))) ((knownL (a ++ b)).getD (a.length + (i + 1)) Pr.none).br ((knownL (a ++ b)).getD (a.length + (i + 1)) Pr.none).pc := rfl
    have c3 : oSt (knownL (a ++ b)) (a.length + (i + 1) + 1) = (((knownL (a ++ b)).getD (a.length + (i + 1)) Pr.none).br == 6 && !oSt (knownL (a ++ b)) (a.length + (i + 1))) := rfl
    have c4 : lSt (knownL (a ++ b)) (a.length + (i + 1) + 1) = ((knownL (a ++ b)).getD (a.length + (i + 1)) Pr.none).br := rfl
    rw [c1, c2, c3, c4, h5, h1, h2, h3]
    exact ⟨rfl, rfl, rfl, rfl⟩
theorem join_cut {a b : List Int} {r : Int} {t : List Int} (hb : b = r :: t) (hr : 1 ≤ gcbI r ∧ gcbI r ≤ 3) (hcr : ¬ (gcbI r = 2 ∧ 0 < a.length ∧ gcbI (a.getD (a.length - 1) 0) = 1)) : ∀ i, jR (knownL (a ++ b)) (a.length + i) = jR (knownL b) i
  | 0 => by
    rw [jR_zero]
    rcases Nat.eq_zero_or_pos a.length with h0 | h0
    · rw [h0]; exact jR_zero _
    obtain ⟨m, hm⟩ : ∃ m, a.length = m + 1 := ⟨a.length - 1, by omega⟩
    have h3 := known_right a b 0
    have h4 : (knownL b).getD 0 Pr.none = knownPr r := by rw [hb]; rfl
    rw [Nat.add_zero, h4] at h3
    obtain ⟨h1, h2⟩ := ctrl_plain hr
    have hl : lSt (knownL (a ++ b)) a.length = gcbI (a.getD (a.length - 1) 0) := by
      rw [hm]
      show ((knownL (a ++ b)).getD m Pr.none).br = _
      rw [known_left a b m (by omega), knownL_at (by omega), Nat.add_sub_cancel]
      rfl
    rw [Nat.add_zero, jR_st, h3, hl]
    have e1 : (knownPr r).br = gcbI r := rfl
    have e2 : (knownPr r).pc = inTab tPict r := rfl
    have e3 : (knownPr r).cv = conjO r := rfl
    rw [e1, e2, e3, h1, h2, decide_eq_true h0]
    unfold joinsB
    have hj : joinI (gcbI (a.getD (a.length - 1) 0)) (gcbI r) ≠ 1 := by
      unfold joinI
      have hcl : clI (gcbI r) = gcbI r := by unfold clI; rw [if_neg (by omega)]
      have hbr : brB (gcbI r) = true := by unfold brB; simp; omega
      rw [hcl]
      unfold pairI
      by_cases hc : clI (gcbI (a.getD (a.length - 1) 0)) = 1 ∧ gcbI r = 2
      · exfalso
        apply hcr
        refine ⟨hc.2, h0, ?_⟩
        have := hc.1
        unfold clI at this
        split at this <;> omega
      · rw [if_neg hc, if_pos (.inr hbr)]; decide
    have h6 : (gcbI r == 6) = false := by rw [beq_eq_false_iff_ne]; omega
    rw [if_neg (by decide), if_neg hj, if_neg (by omega), if_neg (by simp), h6]
    rfl
  | i + 1 => by
    obtain ⟨h1, h2, h3, h4⟩ := sts_shift (a := a) hb hr i
    rw [jR_st, jR_st, h1, h2, h3, h4, known_right]
    rw [decide_eq_true (show 0 < a.length + (i + 1) by omega), decide_eq_true (show 0 < i + 1 by omega)]
theorem cluA_cut {a b : List Int} {r : Int} {t : List Int} (hb : b = r :: t) (hr : 1 ≤ gcbI r ∧ gcbI r ≤ 3) (hcr : ¬ (gcbI r = 2 ∧ 0 < a.length ∧ gcbI (a.getD (a.length - 1) 0) = 1)) : cluA (a ++ b) = cluA a ++ cluA b := by
  have hj := join_cut (a := a) hb hr hcr
  have h0 : jR (knownL (a ++ b)) a.length = false := by have := hj 0; rw [Nat.add_zero, jR_zero] at this; exact this
  have hlb : b.length = t.length + 1 := by rw [hb]; rfl
  unfold cluA clS
  rw [List.length_append, hlb, spansB_cut _ _ _ h0, List.map_append, List.map_map]
  have e1 : spansB (jR (knownL (a ++ b))) a.length = spansB (jR (knownL a)) a.length := spansB_congr _ _ _ fun i hi => jR_congr i fun k hk => known_left a b k (by omega)
  have e2 : spansB (fun i => jR (knownL (a ++ b)) (a.length + i)) (t.length + 1) = spansB (jR (knownL b)) (t.length + 1) := spansB_congr _ _ _ fun i _ => hj i
  rw [e1, e2]
  congr 1
  · refine List.map_congr_left fun p hp => ?_
    have := spansB_ok _ _ _ hp
    unfold sliceL
    rw [List.drop_append_of_le_length (by omega), List.take_append_of_le_length (by rw [List.length_drop]; omega)]
  · refine List.map_congr_left fun p hp => ?_
    show sliceL (a ++ b) (a.length + p.1, a.length + p.2) = sliceL b p
    unfold sliceL
    simp only
    rw [List.drop_length_add_append]
    congr 1
    omega
end Go.Proofs.Ytejiaejdpigiaaa
